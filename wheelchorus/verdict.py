"""Verdicts: which of the four statements hold of a service, with papers or with what shows it [9.11], [9.12]."""

from wheelchorus.boxes import MOST_QUIET
from wheelchorus.deedrows import deed_row
from wheelchorus.errors import BadStatement
from wheelchorus.hiding import hidden, others_of
from wheelchorus.kinds import copy_of
from wheelchorus.line import KEY_TICKS
from wheelchorus.margins import rest_ticks
from wheelchorus.orders import judge_orders
from wheelchorus.readable import false_reading
from wheelchorus.room import CALL
from wheelchorus.spoils import spoil_table
from wheelchorus.town import Town
from wheelchorus.towntext import town_text

FALSE = "false"
HIDDEN = "hidden"
HOUSES = "houses"
CREWS = "crews"


class Verdict:
    STATEMENTS = ("false", "hidden", "houses", "crews")

    def __init__(self, statement, *, number=None, wire_index=None, timed=(), duration=0, papers=()):
        self.statement = statement
        self.number = number
        self.wire_index = wire_index
        self.timed = tuple([copy_of(entry) for entry in timed])
        self.duration = duration
        self.papers = tuple([copy_of(paper) for paper in papers])

    def __bool__(self):
        return self.statement is None

    @property
    def is_safe(self):
        return self.statement is None


class Judge:
    """Judges services; what several of them have in common is judged only once."""

    def __init__(self):
        self.known = {}

    def one_part(self, service, statement):
        """The verdict on one statement alone."""
        basis = basis_of(service, statement)
        if basis not in self.known:
            self.known[basis] = judged_part(service, statement)
        return self.known[basis]

    def whole(self, service):
        """The verdict on all statements in order, up to the first that does not hold."""
        papers = []
        for statement in Verdict.STATEMENTS:
            found = self.one_part(service, statement)
            if not found.is_safe:
                return Verdict(
                    statement, number=found.number, wire_index=found.wire_index, timed=found.timed,
                    duration=found.duration, papers=papers
                )
            papers.extend(found.papers)
        return Verdict(None, papers=papers)


def verdict(service):
    return Judge().whole(service)


def part_of(service, statement):
    if statement not in Verdict.STATEMENTS:
        raise BadStatement(statement)
    return Judge().one_part(service, statement)


def basis_of(service, statement):
    """All of a service on which the verdict on this statement depends, as a key."""
    town = service.town
    if statement == FALSE:
        return statement, town_text(town), service.joining, service.key
    if statement == HIDDEN:
        return statement, town_text(town), service.joining, service.most
    if statement == HOUSES:
        houses = [(house.box, house.ring, house.mark, house.rows, house.need) for house in service.houses]
        return statement, tuple(houses)
    sorts = [town.sort_of(number) for number in service.room.numbers]
    return statement, service.stations, service.card_texts, service.most_open, town.rounds, tuple(sorts)


def judged_part(service, statement):
    if statement == FALSE:
        return false_part(service)
    if statement == HIDDEN:
        return hidden_part(service)
    if statement == HOUSES:
        return houses_part(service)
    return crews_part(service)


def held(statement, entries):
    """The verdict that a statement holds, with its paper."""
    return Verdict(None, papers=((statement, tuple(entries)),))


def false_part(service):
    town = service.town
    entries = []
    for index, wire in enumerate(service.wires):
        for number in town.numbers:
            others = others_of(wire, number)
            answer = false_reading(others, number, rounds=town.rounds, hear=town.hear, key=service.key)
            if not answer.is_safe:
                # With joining all boxes are on one wire, that of the joined town.
                timed, tick = deed_row(town, answer, None if service.joining else index)
                return Verdict(FALSE, number=number, wire_index=index, timed=timed, duration=tick + 1)
            entries.append((index, number, answer))
    return held(FALSE, entries)


def hidden_part(service):
    town = service.town
    entries = []
    for index, wire in enumerate(service.wires):
        for number, sort in wire:
            others = others_of(wire, number)
            hiding = hidden(others, number, sort, rounds=town.rounds, hear=town.hear)
            if hiding is not None and len(hiding) <= service.most:
                timed, ticks = hiding_play(service, wire, hiding)
                return Verdict(HIDDEN, number=number, wire_index=index, timed=timed, duration=ticks)
            entries.append((index, number, hidden_paper(others, number, sort, town.rounds)))
    return held(HIDDEN, entries)


def hidden_paper(others, number, sort, rounds):
    return spoil_table(number, others, rounds=rounds) if sort == Town.PLAIN else ()


def hiding_play(service, wire, hiding):
    """Timed pulls that hide the box on this wire, and so many ticks that all comes to rest behind them."""
    # The wire is closed so long ahead of the first pull that no shy box has to wait.
    start = MOST_QUIET + KEY_TICKS if service.joining else MOST_QUIET
    pulls = sorted([(0, hiding.number), *hiding])
    shift = start - pulls[0][0]
    timed = [(0, ("join",))] if service.joining else []
    timed.extend([(shift + offset, ("pull", number)) for offset, number in pulls])
    names = [number for _, number in pulls]
    boxes = [box for box in wire if box[0] in names]
    return timed, timed[-1][0] + rest_ticks(boxes, service.town.rounds)


def houses_part(service):
    entries = []
    for house in service.houses:
        for fault in house.layout.all_faults():
            heard = house.layout.reached((fault,))
            if len(heard) < house.need:
                return Verdict(
                    HOUSES, number=house.box, timed=silent_play(house, fault), duration=house.rows
                )
            entries.append((house.box, fault, heard))
    return held(HOUSES, entries)


def silent_play(house, fault):
    """The fault, and levels with which the house does not warn because of it."""
    levels = (house.mark + 1,) * house.seekers
    timed = [(0, ("fault", house.box, fault))]
    timed.extend([(tick, ("levels", house.box, levels)) for tick in range(house.rows)])
    return timed


def crews_part(service):
    orders = judge_orders(service.room, most_open=service.most_open)
    if orders.is_safe:
        return held(CREWS, orders.table)
    timed, ticks = events_play(service.town, orders.events)
    return Verdict(CREWS, number=orders.events[-1][1], timed=timed, duration=ticks)


def events_play(town, events):
    """Timed happenings of which these events come, and the ticks that they take."""
    timed = []
    clock = 0
    for word, number in events:
        if word == CALL:
            # A box that still sends rounds could call its number again once it is closed.
            timed.append((clock, ("pull", number)))
            clock += rest_ticks(((number, town.sort_of(number)),), town.rounds)
        else:
            timed.append((clock, (word, number)))
    return timed, clock

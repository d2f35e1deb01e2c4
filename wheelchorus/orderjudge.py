"""Judges of tables of standings and of rows of events, whatever stands in them [8.11], [8.12]."""

from wheelchorus.cards import Card
from wheelchorus.kinds import is_whole, is_whole_within
from wheelchorus.orders import makes_short
from wheelchorus.room import IN, OUT, open_count


def table_fault(room, table, *, most_open):
    for index, thing in enumerate(table):
        if not is_standing(room, thing, most_open):
            return "standing", index
    if room.start() not in table:
        return ("start",)
    known = {standing: True for standing in table}
    for index, standing in enumerate(table):
        for event in room.allowed(standing, most_open):
            after, told = room.step(standing, event)
            if makes_short(event, told):
                return "short", index, event
            if after not in known:
                return "open", index, event
    return None


def is_standing(room, thing, most_open):
    """Whether this is a standing of the room in which at most so many numbers are open."""
    if not is_pair(thing):
        return False
    places, grades = thing
    if not are_grades(room, grades) or open_count(grades) > most_open:
        return False
    if not isinstance(places, tuple) or len(places) != len(room.stations):
        return False
    is_open = {number: grade > 0 for number, grade in zip(room.numbers, grades)}
    return all([is_place(room, place, is_open) for place in places])


def is_pair(thing):
    return isinstance(thing, tuple) and len(thing) == 2


def are_grades(room, thing):
    if not isinstance(thing, tuple) or len(thing) != len(room.cards):
        return False
    return all([is_whole_within(grade, 0, Card.GRADES) for grade in thing])


def is_place(room, thing, is_open):
    if not is_pair(thing):
        return False
    word, where = thing
    if word == IN:
        return is_whole(where) and where in room.stations
    return word == OUT and isinstance(where, str) and is_open.get(where, False)


def row_fault(room, events, *, most_open):
    standing = room.start()
    is_short = False
    for index, event in enumerate(events):
        if event not in room.allowed(standing, most_open):
            return "event", index
        standing, told = room.step(standing, event)
        is_short = makes_short(event, told)
        if is_short and index < len(events) - 1:
            return "early", index
    return None if is_short else ("not short",)

"""Runs of a service: happenings, ticks, the book, playing [9.3] to [9.9]."""

from wheelchorus.errors import BadHappening, NotAllowed
from wheelchorus.hearing import Ears
from wheelchorus.line import Line, check_timed, tick_until
from wheelchorus.panel import Panel, check_levels
from wheelchorus.watch import Watch

LENGTHS = {
    "pull": 2, "cut": 3, "mend": 3, "join": 1, "part": 1, "fault": 3, "heal": 3, "levels": 3, "more": 2, "back": 2,
}


class ServiceRun:
    def __init__(self, service):
        self.service = service
        self._line = Line(service.town)
        self._panels = {house.box: Panel(house) for house in service.houses}
        self._ears = Ears(2 * len(service.town.loops), service.town.hear)
        self._watch = Watch(service.room)
        # The levels for the next tick, by the boxes of the houses for which some are given.
        self._given = {}
        self._book_rows = []
        self._done = []
        self._heard = []
        self._sent_rounds = []
        self._taken = []

    def __iter__(self):
        return iter(self._book_rows)

    def __len__(self):
        return len(self._book_rows)

    @property
    def clock(self):
        return self._line.clock

    @property
    def is_joined(self):
        return self._line.is_joined

    @property
    def cuts(self):
        return self._line.cuts

    @property
    def tapes(self):
        return self._line.tapes

    @property
    def book(self):
        return tuple(self._book_rows)

    @property
    def log(self):
        return tuple(self._done)

    @property
    def hearings(self):
        return tuple(self._heard)

    @property
    def sendings(self):
        return tuple(self._sent_rounds)

    @property
    def pullings(self):
        return tuple(self._taken)

    def box(self, number):
        return self._line.box(number)

    def grade(self, number):
        return self._watch.grade(number)

    def place(self, crew):
        return self._watch.place(crew)

    def rests(self):
        return all([self.box(number)[0] == 0 for number in self.service.town.numbers])

    def pull(self, number):
        taken = self.pull_box(number)
        self.enter(("pull", number), (taken,))
        return taken

    def pull_box(self, number):
        """A pull by hand or by a panel; returns whether it was taken."""
        taken = self._line.pull(number)
        if taken:
            self._taken.append((self.clock, number))
        return taken

    def cut(self, loop, stretch):
        self.do_deed(("cut", loop, stretch), self.service.cutting)

    def mend(self, loop, stretch):
        self.do_deed(("mend", loop, stretch), self.service.cutting)

    def join(self):
        self.do_deed(("join",), self.service.joining)

    def part(self):
        self.do_deed(("part",), self.service.joining)

    def do_deed(self, deed, is_allowed):
        if not is_allowed:
            raise NotAllowed(deed[0])
        self._line.do(deed)
        self.enter(deed)

    def fault(self, box, fault):
        self.panel_of(box).put_fault(fault)
        self.enter(("fault", box, fault))

    def heal(self, box, fault):
        self.panel_of(box).mend_fault(fault)
        self.enter(("heal", box, fault))

    def panel_of(self, box):
        # It raises an error for any object that is not the box of a house, also for what cannot be a key.
        house = self.service.house_of(box)
        return self._panels[house.box]

    def levels(self, box, levels):
        check_levels(self.service.house_of(box), levels)
        self._given[box] = tuple(levels)
        self._done.append((self.clock, ("levels", box, tuple(levels))))

    def more(self, number):
        told = self._watch.more(number)
        self.enter(("more", number), told)
        return told

    def back(self, number):
        told = self._watch.back(number)
        self.enter(("back", number), told)
        return told

    def enter(self, happening, told=()):
        """Enters what was done in the log, and in the book with what it told."""
        self._done.append((self.clock, happening))
        self.write(happening, told)

    def write(self, words, told=()):
        """Writes a row into the book, with the clock as its second item."""
        self._book_rows.append((words[0], self.clock) + words[1:] + told)

    def do(self, happening):
        if not is_happening(happening):
            raise BadHappening(happening)
        word = happening[0]
        if word == "fault":
            return self.fault(happening[1], happening[2])
        if word == "heal":
            return self.heal(happening[1], happening[2])
        if word == "levels":
            return self.levels(happening[1], happening[2])
        if word == "more":
            return self.more(happening[1])
        if word == "back":
            return self.back(happening[1])
        return self.do_on_wires(happening)

    def do_on_wires(self, happening):
        word = happening[0]
        if word == "pull":
            return self.pull(happening[1])
        if word == "cut":
            return self.cut(happening[1], happening[2])
        if word == "mend":
            return self.mend(happening[1], happening[2])
        if word == "join":
            return self.join()
        return self.part()

    def tick(self):
        tick = self.clock
        self.beat_panels()
        line = self._line
        ears = self._ears
        sent = line.tick()
        self._sent_rounds.extend([(tick, number) for number in sent])
        numbers = ears(line.last_signs)
        self._heard.extend([(tick, number) for number in numbers])
        opened = self._watch.call_each(numbers)
        self._book_rows.extend([("call", tick, number) + told for number, told in opened])
        return numbers

    def ticks(self, many):
        for _ in range(many):
            yield self.tick()

    def beat_panels(self):
        for house in self.service.houses:
            box = house.box
            panel = self._panels[box]
            if box not in self._given:
                # With all levels at the mark a beat leaves what a reset leaves.
                panel.reset()
            elif panel.beat(self._given[box]):
                self.write(("warning", box), (self.pull_box(box),))
        self._given = {}


def is_happening(thing):
    if not isinstance(thing, tuple) or len(thing) == 0 or not isinstance(thing[0], str):
        return False
    return thing[0] in LENGTHS and len(thing) == LENGTHS[thing[0]]


def play_service(service, timed, ticks):
    check_timed(timed, ticks)
    run = ServiceRun(service)
    for tick, happening in timed:
        tick_until(run, tick)
        run.do(happening)
    tick_until(run, ticks)
    return run

"""The line: boxes on their wires, deeds, ticks and tapes [3.6] to [3.11]."""

from wheelchorus.boxes import wheel
from wheelchorus.errors import BadTimed, NoBox, NoDeed, NoLoop, NoStretch, NotNow
from wheelchorus.kinds import is_whole, is_whole_within
from wheelchorus.parts import dumb_numbers, wire_ends, wires

DEED_LENGTHS = {"pull": 2, "cut": 3, "mend": 3, "join": 1, "part": 1}
# A deed on the wires holds the key for so many ticks.
KEY_TICKS = 2


class LineState:
    """All of a line that changes. A trial works on a copy of it."""

    def __init__(self, town):
        self.town = town
        self.now = 0
        self.wheels = {number: wheel(number, town.sort_of(number), town.rounds) for number in town.numbers}
        self.home_loops = {number: town.loop_of(number) for number in town.numbers}
        self.held_until = [0 for _ in town.loops]
        self.near_tapes = [[] for _ in town.loops]
        self.far_tapes = [[] for _ in town.loops]
        self.lay_wires(tuple([() for _ in town.loops]), False)

    def lay_wires(self, stretches, together):
        """Sets the cuts and whether the loops are joined, and all that follows from them."""
        self.stretches = stretches
        self.together = together
        self.wires = wires(self.town, stretches, together)
        self.ends = wire_ends(stretches, together)
        self.dumb = dumb_numbers(self.town, stretches)

    def copied(self):
        fresh = LineState(self.town)
        fresh.now = self.now
        fresh.wheels = {number: self.wheels[number].copied() for number in self.wheels}
        fresh.held_until = list(self.held_until)
        fresh.near_tapes = [list(tape) for tape in self.near_tapes]
        fresh.far_tapes = [list(tape) for tape in self.far_tapes]
        fresh.lay_wires(self.stretches, self.together)
        return fresh

    def hold_key(self, loops):
        for loop in loops:
            self.held_until[loop] = self.now + KEY_TICKS

    def held_loops(self):
        return [self.now < until for until in self.held_until]

    def is_broken(self, wire):
        return any([self.wheels[number].breaks for number in wire])

    def write_signs(self, broken, held):
        for loop, (near, far) in enumerate(self.ends):
            self.near_tapes[loop].append(tape_sign(broken[near], held[loop]))
            self.far_tapes[loop].append(tape_sign(broken[far], held[loop]))

    def end_tick(self, broken, held):
        """The end of a tick for each box; returns the numbers whose rounds were sent."""
        feelings = {number: True for number in self.dumb}
        for wire, wire_broken in zip(self.wires, broken):
            for number in wire:
                feelings[number] = wire_broken or held[self.home_loops[number]]
        sent = []
        for number in feelings:
            box = self.wheels[number]
            if box(feelings[number]):
                sent.append(number)
        return sent


def tape_sign(is_broken, is_held):
    if is_held:
        return 2
    return 1 if is_broken else 0


class Kept:
    """The state of a line ahead of a trial, and what the same Trial kept before."""

    def __init__(self, state, earlier):
        self.state = state
        self.earlier = earlier


class Trial:
    """The line works on a copy of its state within the block, and gets the state itself back behind it."""

    def __init__(self, line):
        self.line = line
        self.kept = None

    def __enter__(self):
        self.kept = Kept(self.line.state, self.kept)
        self.line.state = self.line.state.copied()
        return self.line

    def __exit__(self, kind, value, trace):
        self.line.state = self.kept.state
        self.kept = self.kept.earlier


class Line:
    def __init__(self, town):
        self.town = town
        self.state = LineState(town)

    @property
    def clock(self):
        return self.state.now

    @property
    def is_joined(self):
        return self.state.together

    @property
    def cuts(self):
        return self.state.stretches

    @property
    def tapes(self):
        state = self.state
        return tuple([(tuple(near), tuple(far)) for near, far in zip(state.near_tapes, state.far_tapes)])

    @property
    def last_signs(self):
        state = self.state
        if state.now == 0:
            return ()
        ends = [(near[-1], far[-1]) for near, far in zip(state.near_tapes, state.far_tapes)]
        return tuple([sign for pair in ends for sign in pair])

    def near_tape(self, loop):
        self.check_loop(loop)
        return tuple(self.state.near_tapes[loop])

    def far_tape(self, loop):
        self.check_loop(loop)
        return tuple(self.state.far_tapes[loop])

    def box(self, number):
        self.check_number(number)
        return self.state.wheels[number].standing

    def check_number(self, number):
        if number not in self.town.numbers:
            raise NoBox(number)

    def check_loop(self, loop):
        if not is_whole_within(loop, 0, len(self.town.loops) - 1):
            raise NoLoop(loop)

    def pull(self, number):
        self.check_number(number)
        return self.state.wheels[number].pull()

    def cut(self, loop, stretch):
        self.check_loop(loop)
        stretches = self.cuts[loop]
        if not is_whole_within(stretch, 0, len(self.town.wire(loop))) or stretch in stretches:
            raise NoStretch(loop, stretch)
        self.set_stretches(loop, tuple(sorted([*stretches, stretch])))

    def mend(self, loop, stretch):
        self.check_loop(loop)
        stretches = self.cuts[loop]
        if not is_whole(stretch) or stretch not in stretches:
            raise NoStretch(loop, stretch)
        self.set_stretches(loop, tuple([index for index in stretches if index != stretch]))

    def set_stretches(self, loop, stretches):
        cuts = list(self.cuts)
        cuts[loop] = stretches
        self.state.lay_wires(tuple(cuts), self.is_joined)
        self.state.hold_key(self.all_loops() if self.is_joined else [loop])

    def join(self):
        if self.is_joined:
            raise NotNow("join")
        self.set_joined(True)

    def part(self):
        if not self.is_joined:
            raise NotNow("part")
        self.set_joined(False)

    def set_joined(self, together):
        self.state.lay_wires(self.cuts, together)
        self.state.hold_key(self.all_loops())

    def all_loops(self):
        return list(range(len(self.town.loops)))

    def do(self, deed):
        if not is_deed(deed):
            raise NoDeed(deed)
        word = deed[0]
        if word == "pull":
            return self.pull(deed[1])
        if word == "cut":
            return self.cut(deed[1], deed[2])
        if word == "mend":
            return self.mend(deed[1], deed[2])
        if word == "join":
            return self.join()
        return self.part()

    def tick(self):
        state = self.state
        for number in self.town.numbers:
            state.wheels[number].begin()
        # What breaks a wire is settled for all wires ahead of the end of the tick of any box.
        broken = [state.is_broken(wire) for wire in state.wires]
        held = state.held_loops()
        sent = state.end_tick(broken, held)
        state.write_signs(broken, held)
        state.now += 1
        return tuple(sorted(sent))

    def ticks(self, many):
        for _ in range(many):
            yield self.tick()

    def trial(self):
        return Trial(self)


def is_deed(thing):
    if not isinstance(thing, tuple) or len(thing) == 0 or not isinstance(thing[0], str):
        return False
    return thing[0] in DEED_LENGTHS and len(thing) == DEED_LENGTHS[thing[0]]


def tried(line, deeds, ticks):
    with line.trial() as held:
        for deed in deeds:
            held.do(deed)
        for _ in range(ticks):
            held.tick()
        return held.tapes


def play(town, timed, ticks):
    check_timed(timed, ticks)
    line = Line(town)
    for tick, deed in timed:
        tick_until(line, tick)
        line.do(deed)
    tick_until(line, ticks)
    return line


def check_timed(timed, ticks):
    earlier = 0
    for index, entry in enumerate(timed):
        if not isinstance(entry, tuple) or len(entry) != 2:
            raise BadTimed(index)
        if not is_whole_within(entry[0], earlier, ticks):
            raise BadTimed(index)
        earlier = entry[0]


def tick_until(line, tick):
    while line.clock < tick:
        line.tick()


"""Rings: the seekers and openers of a house, their zones, and what faults leave heard [7.1] to [7.5]."""

from wheelchorus.errors import BadFault, BadRing
from wheelchorus.kinds import is_whole_within

MOST_SIGNS = 10
SEEKER = "s"
OPENER = "o"
CUT = "cut"
SHORT = "short"
LEFT = "left"
RIGHT = "right"


class Ring:
    def __init__(self, text):
        if not is_ring_text(text):
            raise BadRing(text)
        self.text = text
        self.seekers = text.count(SEEKER)
        self.zones = zones_of(text)

    def __iter__(self):
        return iter(self.text)

    def __len__(self):
        return len(self.text)

    def __eq__(self, other):
        return isinstance(other, Ring) and self.text == other.text

    def joined_with(self, other):
        return Ring(self.text + other.text)

    def all_faults(self):
        return tuple([(word, stretch) for stretch in range(len(self.text) + 1) for word in (CUT, SHORT)])

    def check_fault(self, thing):
        if not isinstance(thing, tuple) or len(thing) != 2:
            raise BadFault(thing)
        if thing[0] not in (CUT, SHORT) or not is_whole_within(thing[1], 0, len(self.text)):
            raise BadFault(thing)

    def check_faults(self, faults):
        for fault in faults:
            self.check_fault(fault)

    def walk_from(self, end, faults):
        if end not in (LEFT, RIGHT):
            raise BadRing(end)
        self.check_faults(faults)
        yield from self.passed_from(end, faults)

    def reached(self, faults):
        self.check_faults(faults)
        return tuple(sorted(set(self.passed_from(LEFT, faults) + self.passed_from(RIGHT, faults))))

    def passed_from(self, end, faults):
        """The seekers that the walk from this end passes, in its order."""
        closed = self.closed_stretches(faults)
        passed = []
        places = list(range(len(self.text)))
        for place in places if end == LEFT else places[::-1]:
            # From the left a sign stands behind its stretch, from the right ahead of the next one.
            if closed[place if end == LEFT else place + 1]:
                return passed
            if self.text[place] == SEEKER:
                passed.append(self.text[:place].count(SEEKER))
        return passed

    def closed_stretches(self, faults):
        """For each stretch whether a walk ends ahead of it."""
        dead = [self.zone_of(stretch) for word, stretch in faults if word == SHORT]
        stretches = range(len(self.text) + 1)
        return [(CUT, stretch) in faults or self.zone_of(stretch) in dead for stretch in stretches]

    def zone_of(self, stretch):
        return self.text[:stretch].count(OPENER)


def is_ring_text(thing):
    if not isinstance(thing, str) or len(thing) > MOST_SIGNS:
        return False
    return SEEKER in thing and all([sign in (SEEKER, OPENER) for sign in thing])


def zones_of(text):
    zones = []
    first = 0
    for part in text.split(OPENER):
        zones.append(tuple(range(first, first + len(part))))
        first += len(part)
    return tuple(zones)

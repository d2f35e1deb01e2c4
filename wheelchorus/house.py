"""Houses: their rules, the faults that silence them, false levels and guarded rings [7.6], [7.10] to [7.12]."""

from wheelchorus.errors import BadHouse
from wheelchorus.kinds import is_whole, is_whole_within
from wheelchorus.numbers import is_number
from wheelchorus.ring import MOST_SIGNS, OPENER, SEEKER, Ring, is_ring_text

MOST_ROWS = 8


class House:
    def __init__(self, box, ring, *, mark, rows, need=1):
        if not is_number(box):
            raise BadHouse("box")
        if not is_ring_text(ring):
            raise BadHouse("ring")
        if not is_whole(mark):
            raise BadHouse("mark")
        if not is_whole_within(rows, 1, MOST_ROWS):
            raise BadHouse("rows")
        if not is_whole_within(need, 1, ring.count(SEEKER)):
            raise BadHouse("need")
        self.box = box
        self.ring = ring
        self.mark = mark
        self.rows = rows
        self.need = need
        self.layout = Ring(ring)
        self.seekers = self.layout.seekers

    def __eq__(self, other):
        return (
            isinstance(other, House)
            and self.box == other.box
            and self.ring == other.ring
            and self.mark == other.mark
            and self.rows == other.rows
            and self.need == other.need
        )

    def with_rules(self, *, ring=None, mark=None, rows=None, need=None):
        return House(
            self.box,
            self.ring if ring is None else ring,
            mark=self.mark if mark is None else mark,
            rows=self.rows if rows is None else rows,
            need=self.need if need is None else need,
        )

    def is_silent(self, *faults):
        return len(self.layout.reached(faults)) < self.need

    def silent_faults(self):
        return tuple([fault for fault in self.layout.all_faults() if self.is_silent(fault)])

    def least_lots(self):
        singles = self.silent_faults()
        others = [fault for fault in self.layout.all_faults() if fault not in singles]
        lots = [(fault,) for fault in singles]
        # Of any faults two alone leave the same heard [7.5], so no least lot has three.
        for index, fault in enumerate(others):
            lots.extend([(fault, other) for other in others[index + 1:] if self.is_silent(fault, other)])
        return tuple(lots)


def false_levels(house, faults=()):
    heard = house.layout.reached(faults)
    if len(heard) < house.need:
        return None
    raised = heard[:house.need]
    levels = tuple([house.mark + 1 if seeker in raised else house.mark for seeker in range(house.seekers)])
    return (levels,) * house.rows


def guarded_ring(seekers, need):
    if not is_whole_within(seekers, 1, MOST_SIGNS):
        raise BadHouse("seekers")
    if not is_whole_within(need, 1, seekers):
        raise BadHouse("need")
    # No zone may have more seekers than can be spared.
    spare = seekers - need
    if spare == 0:
        return None
    text = OPENER.join([SEEKER * min(spare, seekers - first) for first in range(0, seekers, spare)])
    return text if len(text) <= MOST_SIGNS else None

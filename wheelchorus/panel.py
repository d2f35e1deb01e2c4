"""Panels: they watch the seekers of a house beat by beat [7.7] to [7.9]."""

from wheelchorus.errors import BadLevels, NoFault
from wheelchorus.kinds import is_whole


class Panel:
    def __init__(self, house):
        self.house = house
        self.set_faults([])
        self.reset()

    def set_faults(self, faults):
        """Sets the present faults, and which seekers are heard with them."""
        self.faults = tuple([fault for fault in self.house.layout.all_faults() if fault in faults])
        self.heard = self.house.layout.reached(self.faults)

    def put_fault(self, fault):
        self.house.layout.check_fault(fault)
        self.set_faults([*self.faults, fault])

    def mend_fault(self, fault):
        self.house.layout.check_fault(fault)
        if fault not in self.faults:
            raise NoFault(fault)
        self.set_faults([other for other in self.faults if other != fault])

    def reset(self):
        self.counts = (0,) * self.house.seekers
        self.alarmed = False

    def beat(self, levels):
        check_levels(self.house, levels)
        was_alarmed = self.alarmed
        self.counts = tuple([self.count_behind(seeker, level) for seeker, level in enumerate(levels)])
        full = [count for count in self.counts if count >= self.house.rows]
        self.alarmed = len(full) >= self.house.need
        return self.alarmed and not was_alarmed

    def count_behind(self, seeker, level):
        """The count of this seeker behind a tick with this level."""
        is_high = seeker in self.heard and level > self.house.mark
        return self.counts[seeker] + 1 if is_high else 0

    def copied(self):
        fresh = Panel(self.house)
        fresh.set_faults(self.faults)
        fresh.counts = self.counts
        fresh.alarmed = self.alarmed
        return fresh


def check_levels(house, levels):
    if len(levels) != house.seekers:
        raise BadLevels("length", len(levels))
    for index, level in enumerate(levels):
        if not is_whole(level):
            raise BadLevels("level", index)


def tried(panel, faults, beats):
    # A copy is tried, so that the panel stays as it is, whatever happens.
    trial = panel.copied()
    for fault in faults:
        trial.put_fault(fault)
    return tuple([trial.beat(levels) for levels in beats])


def first_warning(house, beats, faults=()):
    panel = Panel(house)
    for fault in faults:
        panel.put_fault(fault)
    for index, levels in enumerate(beats):
        if panel.beat(levels):
            return index
    return None

"""The boxes: their wheels, plain and shy [3.1] to [3.4]."""

from wheelchorus.numbers import row_of
from wheelchorus.town import Town

# A shy box begins behind so many closed ticks, and one more for each round it has sent.
QUIET_AHEAD = 8
MOST_QUIET = 16


class WheelBox:
    """What both sorts have in common. Only the two sorts are made."""

    def __init__(self, number, rounds):
        self.number = number
        self._rounds = rounds
        self._row = row_of(number)
        self._left = 0
        self._sent = 0
        self._place = None
        self._quiet = 0

    @property
    def standing(self):
        return self._left, self._sent, self._place, self._quiet

    @property
    def breaks(self):
        return self._place is not None and self._row[self._place] == 1

    def pull(self):
        if self._left > 0:
            return False
        self._left = self._rounds
        self._sent = 0
        return True

    def can_begin(self):
        return self._place is None and self._left > 0

    def begin(self):
        if self.can_begin():
            self._place = 0

    def go_on(self):
        """Turns the wheel by one tick, if it turns; tells whether a round was sent."""
        if self._place is None:
            return False
        self._place += 1
        if self._place < len(self._row):
            return False
        self._place = None
        self._left -= 1
        self._sent = self._sent + 1 if self._left > 0 else 0
        return True

    def stand_as(self, other):
        """Takes over the standing of another box with this number."""
        self._left, self._sent, self._place, self._quiet = other.standing


class PlainBox(WheelBox):
    def __call__(self, broken):
        return self.go_on()

    def copied(self):
        fresh = PlainBox(self.number, self._rounds)
        fresh.stand_as(self)
        return fresh


class ShyBox(WheelBox):
    def can_begin(self):
        return super().can_begin() and self._quiet >= QUIET_AHEAD + self._sent

    def __call__(self, broken):
        if broken and self._place is not None and not self.breaks:
            self._place = None
            is_sent = False
        else:
            is_sent = self.go_on()
        self._quiet = 0 if broken else min(self._quiet + 1, MOST_QUIET)
        return is_sent

    def copied(self):
        fresh = ShyBox(self.number, self._rounds)
        fresh.stand_as(self)
        return fresh


def wheel(number, sort, rounds):
    if sort == Town.PLAIN:
        return PlainBox(number, rounds)
    return ShyBox(number, rounds)

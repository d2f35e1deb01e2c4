"""Strokes and patterns [1.5], [1.6]."""

from wheelchorus.errors import BadOffset
from wheelchorus.kinds import is_whole
from wheelchorus.numbers import length_of, row_of


class Strokes:
    """A set of offsets that never changes."""

    def __init__(self, offsets=()):
        for offset in offsets:
            check_offset(offset)
        self.offsets = tuple(sorted(set(offsets)))

    def __iter__(self):
        return iter(self.offsets)

    def __len__(self):
        return len(self.offsets)

    def __contains__(self, x):
        return is_whole(x) and x in self.offsets

    def __eq__(self, other):
        return isinstance(other, Strokes) and self.offsets == other.offsets

    def __or__(self, other):
        return Strokes(sorted(set(self.offsets) | set(other.offsets)))

    def __and__(self, other):
        return Strokes(sorted(set(self.offsets) & set(other.offsets)))

    def __sub__(self, other):
        return Strokes(sorted(set(self.offsets) - set(other.offsets)))

    def __rshift__(self, other):
        check_offset(other)
        return Strokes([offset + other for offset in self.offsets])

    @property
    def lowest(self):
        return self.offsets[0] if len(self.offsets) > 0 else None

    def within(self, other):
        return len(set(self.offsets) - set(other.offsets)) == 0

    def cut(self, end):
        return Strokes([offset for offset in self.offsets if offset < end])


def check_offset(thing):
    if not is_whole(thing) or thing < 0:
        raise BadOffset(thing)


def strokes_of(number):
    return Strokes([offset for offset, sign in enumerate(row_of(number)) if sign == 1])


def pattern(number, times=1):
    length = length_of(number)
    strokes = strokes_of(number)
    return Strokes([at * length + offset for at in range(times) for offset in strokes])

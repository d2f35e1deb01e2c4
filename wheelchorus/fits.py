"""Fits of a number, and of its trains, into another number [2.1], [2.3]."""

from wheelchorus.numbers import blocks, check_number, length_of
from wheelchorus.rows import strokes_of


def block_ends(number):
    """For each block the offsets of its first and of its last stroke."""
    ends = []
    first = 0
    for strokes in blocks(number):
        ends.append((first, first + 2 * (strokes - 1)))
        first += 2 * (strokes + 1)
    return ends


def fit_blocks(number, within, at):
    ends = block_ends(number)
    homes = block_ends(within)
    # Strokes stand at even offsets alone, so between two even ends each even offset is a stroke.
    if at % 2 == 1:
        return ()
    indexes = []
    for first, last in ends:
        index = home_index(homes, at + first, at + last)
        if index is None:
            return ()
        indexes.append(index)
    return tuple(indexes)


def home_index(homes, first, last):
    """The index of the block whose ends enclose these two offsets, or None."""
    for index, (low, high) in enumerate(homes):
        if low <= first and last <= high:
            return index
    return None


def fits(number, within):
    check_number(number)
    return tuple([at for at in range(0, length_of(within), 2) if len(fit_blocks(number, within, at)) > 0])


def fits_by_ticks(number, within):
    strokes = strokes_of(number)
    room = strokes_of(within)
    return tuple([at for at in range(0, length_of(within), 2) if (strokes >> at).within(room)])


def train_fits(number, within, rounds):
    places = fits(number, within)
    length = length_of(number)
    end = length_of(within)
    found = []
    for at in places:
        # Only rounds that begin ahead of the end of the other row have to fit.
        if all([start in places for start in range(at + length, min(end, at + rounds * length), length)]):
            found.append(at)
    return tuple(found)

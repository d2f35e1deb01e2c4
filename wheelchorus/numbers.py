"""Numbers, their rows and blocks, and who goes ahead [1.1] to [1.4]."""

from wheelchorus.errors import BadNumber
from wheelchorus.kinds import is_whole_within

DIGITS = "123456789"
MOST_DIGITS = 4
GREATEST_SUM = 24
# So many closed ticks side by side end a row, and stand nowhere else in it.
CLOSED_END = 5


def is_number(thing):
    if not isinstance(thing, str) or not 1 <= len(thing) <= MOST_DIGITS:
        return False
    if not all([letter in DIGITS for letter in thing]):
        return False
    return sum([int(letter) for letter in thing]) <= GREATEST_SUM


def check_number(thing):
    if not is_number(thing):
        raise BadNumber(thing)


def blocks(number):
    check_number(number)
    return tuple([int(letter) for letter in number])


def row_of(number):
    row = []
    for strokes in blocks(number):
        row.extend([1, 0] * strokes)
        row.extend([0, 0])
    row.extend([0, 0])
    return tuple(row)


def length_of(number):
    sizes = blocks(number)
    return 2 * (sum(sizes) + len(sizes) + 1)


def number_of(row):
    if not all([is_whole_within(sign, 0, 1) for sign in row]):
        return None
    # Strokes have even offsets, so every second sign tells the whole row, if it is one.
    halves = "".join([str(sign) for sign in row[::2]])
    groups = halves.split("0")
    # Behind the last digit stand two zeros, each with an empty group behind it.
    number = "".join([str(len(group)) for group in groups[:-2]])
    if is_number(number) and row_of(number) == tuple(row):
        return number
    return None


def first_difference(one, other):
    """The first offset at which the rows of two numbers differ; the length of the row if they are equal."""
    row = row_of(one)
    # No row begins with another one: behind five zeros side by side a row has no stroke.
    for offset, (sign, other_sign) in enumerate(zip(row, row_of(other))):
        if sign != other_sign:
            return offset
    return len(row)


def goes_ahead(one, other):
    offset = first_difference(one, other)
    row = row_of(one)
    return offset < len(row) and row[offset] == 1

"""What pulls of other boxes spoil of a called box, and the fewest that hide it [6.1] to [6.6]."""

from wheelchorus.errors import BadHiding
from wheelchorus.hidingchecks import check_called, check_hear, check_other, check_others, check_rounds, check_sort
from wheelchorus.kinds import is_sequence, is_whole, is_whole_within
from wheelchorus.numbers import CLOSED_END, length_of, row_of
from wheelchorus.rows import strokes_of
from wheelchorus.town import Town, is_sort

ROW_SIZE = 4


def window(number, index):
    check_called(number)
    if not is_whole(index) or index < 0:
        raise BadHiding("index")
    length = length_of(number)
    return index * length - CLOSED_END, (index + 1) * length - 1


def is_foreign(number, offset, *, rounds):
    check_called(number)
    check_rounds(rounds)
    return not has_stroke(row_of(number), offset, rounds)


def has_stroke(row, offset, rounds):
    """Whether so many of these rows, one behind the other from offset 0 on, have a stroke at this offset."""
    return 0 <= offset < rounds * len(row) and row[offset % len(row)] == 1


def spoilt_by(number, other, sort, at, *, rounds):
    check_pull(number, other, sort, rounds)
    if not is_whole(at) or sort == Town.SHY and not is_shy_offset(other, at):
        raise BadHiding("at")
    return spoilt_rounds(number, given_offsets(number, other, sort, at, rounds), rounds)


def check_pull(number, other, sort, rounds):
    check_called(number)
    check_sort(sort)
    check_other(other, number)
    check_rounds(rounds)


def is_shy_offset(other, thing):
    return is_whole_within(thing, 1 - length_of(other), 0)


def spoilt_rounds(number, offsets, rounds):
    """The rounds of a plain called box that are spoilt by strokes of other boxes at these offsets."""
    row = row_of(number)
    spoilt = {}
    for offset in offsets:
        if not has_stroke(row, offset, rounds):
            # At the end of a round it lies in the window of the next one, too.
            spoilt[offset // len(row)] = True
            spoilt[(offset + CLOSED_END) // len(row)] = True
    return tuple([index for index in range(rounds) if index in spoilt])


def given_offsets(number, other, sort, at, rounds):
    """The offsets of the strokes that one pull of the other box gives."""
    strokes = strokes_of(other)
    if sort == Town.SHY:
        end = step_offset(number, other, at, rounds)
        return [at + offset for offset in strokes if at + offset < end]
    length = length_of(other)
    return [at + index * length + offset for index in range(rounds) for offset in strokes]


def step_offset(number, other, at, rounds):
    """The offset at which the shy other box steps back, or the end of its first round."""
    row = row_of(number)
    other_row = row_of(other)
    for place, sign in enumerate(other_row):
        if sign == 0 and has_stroke(row, at + place, rounds):
            return at + place
    return at + len(other_row)


def stays(number, other, at, *, rounds):
    check_called(number)
    check_other(other, number)
    check_rounds(rounds)
    if not is_shy_offset(other, at):
        raise BadHiding("at")
    return step_offset(number, other, at, rounds)


def most_spoilt(number, other, sort, *, rounds):
    check_pull(number, other, sort, rounds)
    return greatest_spoil(number, other, sort, rounds)


def greatest_spoil(number, other, sort, rounds):
    """How many rounds one pull of the other box spoils at best, and the offset at which it does."""
    if sort == Town.PLAIN:
        length = length_of(number)
        return (rounds * length_of(other) - 2) // length + 2, length - 1
    counts = []
    for at in range(0, -length_of(other), -1):
        offsets = given_offsets(number, other, sort, at, rounds)
        counts.append((len(spoilt_rounds(number, offsets, rounds)), at))
    return max(counts)


def spoil_table(number, boxes, *, rounds):
    check_called(number)
    check_others(boxes, number)
    check_rounds(rounds)
    return tuple([(other, sort) + greatest_spoil(number, other, sort, rounds) for other, sort in boxes])


def fewest(table, *, rounds, hear=1):
    if not is_sequence(table) or not all([is_table_row(row) for row in table]):
        raise BadHiding("table")
    check_rounds(rounds)
    check_hear(hear, rounds)
    ways = [pulls_alone(table, rounds, hear), pulls_behind_shy(table, rounds, hear)]
    return min([count for count in ways if count is not None], default=None)


def is_table_row(thing):
    if not is_sequence(thing) or len(thing) != ROW_SIZE:
        return False
    return is_sort(thing[1]) and is_whole(thing[2]) and thing[2] >= 1


def best_row(table, sort):
    """The first row of this sort with the greatest count; None if the table lacks the sort."""
    best = None
    for row in table:
        if row[1] == sort and (best is None or row[2] > best[2]):
            best = row
    return best


def pulls_alone(table, rounds, hear):
    """How many pulls of plain boxes alone hide the called box; None if there is no plain box."""
    plain = best_row(table, Town.PLAIN)
    return None if plain is None else plain_pulls_needed(plain[2], 0, rounds, hear)


def pulls_behind_shy(table, rounds, hear):
    """How many pulls hide the called box if the first one is of a shy box; None if that is not possible."""
    shy = best_row(table, Town.SHY)
    if shy is None:
        return None
    if shy[2] >= rounds - hear + 1:
        return 1
    plain = best_row(table, Town.PLAIN)
    return None if plain is None else 1 + plain_pulls_needed(plain[2], shy[2], rounds, hear)


def plain_pulls_needed(count, spoilt, rounds, hear):
    """How many pulls that spoil count rounds each hide what is left behind the rounds that are spoilt already."""
    # With hear 2 one round may be read ahead of each pull, and one behind the last.
    left = rounds - spoilt - (hear - 1)
    return -(-left // (count + hear - 1))

"""The fewest pulls that hide a called box, who hides whom, and boxes held back [6.7], [6.8], [6.10], [6.11]."""

from wheelchorus.errors import BadHiding
from wheelchorus.hidingchecks import check_called, check_hear, check_others, check_rounds, check_sort, check_wire
from wheelchorus.kinds import is_whole, is_whole_within
from wheelchorus.numbers import length_of
from wheelchorus.spoils import best_row, pulls_alone, pulls_behind_shy, spoil_table
from wheelchorus.town import Town

MOST_HOLDING_PULLS = 8
# Behind the five closed ticks that end a row a shy box waits for so many more, as long as it has sent nothing.
WAIT = 3


class Hiding:
    """Pulls of other boxes that hide a called box."""

    def __init__(self, number, box_sort, pulls):
        self.number = number
        self.box_sort = box_sort
        self.pulls = pulls

    def __iter__(self):
        return iter(self.pulls)

    def __len__(self):
        return len(self.pulls)


class Holding:
    """Pulls of plain boxes that hold a shy called box back, and when its first round is sent."""

    def __init__(self, number, pulls, sent):
        self.number = number
        self.pulls = pulls
        self.sent = sent


def hidden(boxes, number, sort, *, rounds, hear=1):
    check_called(number)
    check_sort(sort)
    check_others(boxes, number)
    check_rounds(rounds)
    check_hear(hear, rounds)
    return hiding_of(boxes, number, sort, rounds, hear)


def hiding_of(boxes, number, sort, rounds, hear):
    if sort == Town.PLAIN:
        pulls = pulls_on_plain(spoil_table(number, boxes, rounds=rounds), number, rounds, hear)
    else:
        pulls = pulls_on_shy(boxes, number, rounds, hear)
    return None if pulls is None else Hiding(number, sort, pulls)


def pulls_on_plain(table, number, rounds, hear):
    """The fewest pulls that hide a plain called box, told by its spoil table; None if none do."""
    alone = pulls_alone(table, rounds, hear)
    behind = pulls_behind_shy(table, rounds, hear)
    plain = best_row(table, Town.PLAIN)
    if alone is not None and (behind is None or alone <= behind):
        return plain_pulls(plain, number, 0, alone, hear)
    if behind is None:
        return None
    other, _, spoilt, at = best_row(table, Town.SHY)
    return ((at, other),) + plain_pulls(plain, number, spoilt, behind - 1, hear)


def plain_pulls(row, number, spoilt, many, hear):
    """So many pulls of the plain box of this row of a table, behind the rounds that are spoilt already."""
    length = length_of(number)
    # With hear 2 each pull leaves the round ahead of its own to be read.
    return tuple([((spoilt + hear + j * (row[2] + hear - 1)) * length - 1, row[0]) for j in range(many)])


def pulls_on_shy(boxes, number, rounds, hear):
    """The fewest pulls that hide a shy called box; None if none do."""
    if hear == 1 or len(boxes) == 0:
        return None
    shy = [other for other, sort in boxes if sort == Town.SHY]
    if len(shy) > 0:
        return ((1, shy[0]),)
    other = boxes[0][0]
    length = length_of(number)
    at = length
    pulls = [(at, other)]
    for index in range(1, rounds - 1):
        at += length + rounds * length_of(other) + WAIT + index
        pulls.append((at, other))
    return tuple(pulls)


def check_page(boxes, rounds, hear):
    check_wire(boxes)
    check_rounds(rounds)
    check_hear(hear, rounds)


def others_of(boxes, number):
    return [box for box in boxes if box[0] != number]


def who_hides(boxes, *, rounds, hear=1):
    check_page(boxes, rounds, hear)
    rows = []
    for number, sort in boxes:
        others = others_of(boxes, number)
        hiding = hiding_of(others, number, sort, rounds, hear)
        alone = [box[0] for box in others if is_hidden_by(box, number, sort, rounds, hear)]
        rows.append((number, sort, None if hiding is None else len(hiding), tuple(alone)))
    return tuple(rows)


def is_hidden_by(box, number, sort, rounds, hear):
    """Whether one pull of this box hides the called one."""
    hiding = hiding_of([box], number, sort, rounds, hear)
    return hiding is not None and len(hiding) == 1


def first_hidden(boxes, *, rounds, hear=1, most):
    check_page(boxes, rounds, hear)
    if not is_whole(most) or most < 0:
        raise BadHiding("most")
    for number, sort in boxes:
        hiding = hiding_of(others_of(boxes, number), number, sort, rounds, hear)
        if hiding is not None and len(hiding) <= most:
            return hiding
    return None


def hiding_page(boxes, *, rounds, hear=1):
    lines = []
    for number, sort, count, alone in who_hides(boxes, rounds=rounds, hear=hear):
        told = "--" if count is None else str(count)
        names = "".join([" " + other for other in alone])
        lines.append(f"{number:<4} {sort:<5} {told:>2}{names}")
    return tuple(lines)


def held_back(number, boxes, *, rounds, count):
    check_called(number)
    check_others(boxes, number)
    check_rounds(rounds)
    if not is_whole_within(count, 0, MOST_HOLDING_PULLS):
        raise BadHiding("count")
    last = length_of(number) - 1
    if count == 0:
        return Holding(number, (), last)
    other = longest_plain(boxes)
    if other is None:
        return None
    pause = rounds * length_of(other) + length_of(number) + WAIT - 1
    pulls = tuple([(last + j * pause, other) for j in range(count)])
    return Holding(number, pulls, last + count * pause)


def longest_plain(boxes):
    """The number of the first plain box with the longest row; None if there is no plain box."""
    best = None
    for number, sort in boxes:
        if sort == Town.PLAIN and (best is None or length_of(number) > length_of(best)):
            best = number
    return best

"""Towns as texts [1.9], [1.10]."""

from wheelchorus.errors import BadRow, BadTown
from wheelchorus.kinds import is_digit
from wheelchorus.numbers import is_number
from wheelchorus.town import MOST_BOXES, MOST_LOOPS, Town, has_double, is_sort

LOOP_HEAD = "loop "


def town_text(town):
    rows = [f"rounds {town.rounds} hear {town.hear}"]
    for loop in town.loops:
        rows.append(LOOP_HEAD + ", ".join([f"{number} {sort}" for number, sort in loop]))
    return "\n".join(rows)


def read_town(text):
    rows = text.split("\n")
    rounds, hear = read_head(rows[0])
    loops = [read_loop(index, row) for index, row in enumerate(rows[1:], start=1)]
    try:
        return Town(loops, rounds=rounds, hear=hear)
    except BadTown as wrong:
        raise BadRow(wrong_row(wrong.what, loops), wrong.what) from wrong


def read_head(row):
    words = row.split(" ")
    if len(words) != 4 or words[0] != "rounds" or words[2] != "hear":
        raise BadRow(0, "head")
    if not is_digit(words[1]) or not is_digit(words[3]):
        raise BadRow(0, "head")
    return int(words[1]), int(words[3])


def read_loop(index, row):
    if not row.startswith(LOOP_HEAD):
        raise BadRow(index, "loop")
    boxes = [tuple(piece.split(" ")) for piece in row[len(LOOP_HEAD):].split(", ")]
    for words in boxes:
        if len(words) != 2 or "" in words:
            raise BadRow(index, "loop")
    return boxes


def wrong_row(what, loops):
    """The row that made the town wrong; the loop with the index k stands in row k + 1."""
    if what in ("rounds", "hear"):
        return 0
    if what == "loops":
        return first_row([is_loop_too_much(index, loop) for index, loop in enumerate(loops)])
    if what == "number":
        return first_row([not all([is_number(number) for number, _ in loop]) for loop in loops])
    if what == "sort":
        return first_row([not all([is_sort(sort) for _, sort in loop]) for loop in loops])
    return first_row([has_double_up_to(loops, index) for index in range(len(loops))])


def first_row(faults):
    for index, is_fault in enumerate(faults):
        if is_fault:
            return index + 1
    # Only a town without a loop has no faulty one, and is told at row 1.
    return 1


def is_loop_too_much(index, loop):
    return len(loop) > MOST_BOXES or index >= MOST_LOOPS


def has_double_up_to(loops, index):
    """Whether some number stands twice in the loops up to this one."""
    return has_double([box for loop in loops[:index + 1] for box in loop])

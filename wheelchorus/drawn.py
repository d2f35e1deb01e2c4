"""Tapes as texts and as rows of columns, and reading them back [4.5]."""

from wheelchorus.errors import BadColumns, BadTape
from wheelchorus.tapes import walk_pieces

# The letter of each sign stands at the sign's own index.
LETTERS = ".xK"
MOST_WIDTH = 99


def tape_text(tape):
    return "".join([LETTERS[sign] for sign in tape])


def read_tape(text):
    for at, letter in enumerate(text):
        if letter not in LETTERS:
            raise BadTape(at)
    return tuple([LETTERS.find(letter) for letter in text])


def column_head(tick):
    """What stands ahead of the signs of a row of columns."""
    return f"{tick:>5} | "


def columns(tape, width):
    return tuple([column_head(at) + tape_text(tape[at:at + width]) for at in range(0, len(tape), width)])


def read_columns(rows):
    text = ""
    for index, row in enumerate(rows):
        head = column_head(len(text))
        letters = row[len(head):]
        # All text so far stands in full rows, so it tells the width; at first the first row does.
        width = len(text) // index if index > 0 else min(len(letters), MOST_WIDTH)
        is_whole_row = len(letters) == width or index == len(rows) - 1
        if not row.startswith(head) or not are_letters(letters) or not 1 <= len(letters) <= width or not is_whole_row:
            raise BadColumns(index)
        text = text + letters
    return read_tape(text)


def are_letters(text):
    return all([letter in LETTERS for letter in text])


def piece_rows(tape):
    return tuple([f"{at:>5} {word:<6} {worth:>5}" for at, (word, worth) in walk_pieces(tape)])

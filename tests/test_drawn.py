"""[4.5] and the heading drawn.py."""

import random
import unittest

from tests import plain
from tests.test_tapes import some_tape
from wheelchorus.drawn import columns, piece_rows, read_columns, read_tape, tape_text
from wheelchorus.errors import BadColumns, BadTape

ROW = tuple(plain.row("12"))


def plain_text(tape):
    return "".join({0: ".", 1: "x", 2: "K"}[sign] for sign in tape)


def plain_columns(tape, width):
    rows = []
    text = plain_text(tape)
    while text:
        tick = str(len(tape) - len(text))
        rows.append(" " * (5 - len(tick)) + tick + " | " + text[:width])
        text = text[width:]
    return tuple(rows)


def would_write(rows):
    """Whether `columns` writes these rows for some tape and some width."""
    text = "".join(row[8:] for row in rows)
    if set(text) - set(".xK"):
        return False
    tape = tuple(".xK".index(letter) for letter in text)
    return any(plain_columns(tape, width) == tuple(rows) for width in range(1, 100))


class TextTest(unittest.TestCase):
    def test_known_texts(self):
        self.assertEqual(tape_text(()), "")
        self.assertEqual(tape_text((0, 1, 2)), ".xK")
        self.assertEqual(tape_text(ROW), "x...x.x.....")
        self.assertEqual(read_tape(""), ())
        self.assertEqual(read_tape(".xK"), (0, 1, 2))
        self.assertIs(type(read_tape("x")), tuple)

    def test_there_and_back(self):
        chance = random.Random(451)
        for size in (1, 7, 400, 3000):
            tape = some_tape(chance, size)
            self.assertEqual(tape_text(tape), plain_text(tape))
            self.assertEqual(read_tape(plain_text(tape)), tape)

    def test_first_foreign_character(self):
        for letter in " X-k012\n|~":
            for at in (0, 1, 5, 2999):
                text = ".xK" * 1000
                wrong = text[:at] + letter + text[at + 1:]
                for more in (wrong, wrong[:at + 1], wrong[:at + 1] + " ", wrong[:at + 1] + letter * 3):
                    with self.assertRaises(BadTape) as caught:
                        read_tape(more)
                    self.assertEqual(caught.exception.at, at)


class ColumnsTest(unittest.TestCase):
    def test_known_rows(self):
        self.assertEqual(columns((), 5), ())
        self.assertEqual(columns(ROW, 5), ("    0 | x...x", "    5 | .x...", "   10 | .."))
        self.assertEqual(columns(ROW, 12), ("    0 | x...x.x.....",))
        self.assertEqual(columns(ROW, 99), ("    0 | x...x.x.....",))
        self.assertEqual(columns((2, 0), 1), ("    0 | K", "    1 | ."))
        self.assertEqual(read_columns(()), ())
        self.assertEqual(read_columns([]), ())
        self.assertEqual(read_columns(["    0 | x...x", "    5 | .x...", "   10 | .."]), ROW)

    def test_there_and_back(self):
        chance = random.Random(452)
        for width in (1, 2, 7, 60, 98, 99):
            for size in (0, 1, width - 1, width, width + 1, 3 * width, 3 * width + 1, 2999, 3000):
                tape = some_tape(chance, size)
                rows = columns(tape, width)
                self.assertIs(type(rows), tuple)
                self.assertEqual(rows, plain_columns(tape, width))
                self.assertEqual(read_columns(rows), tape)
                self.assertEqual(read_columns(list(rows)), tape)

    def check_wrong(self, rows, index):
        kept = list(rows)
        with self.assertRaises(BadColumns) as caught:
            read_columns(rows)
        self.assertEqual(caught.exception.index, index)
        self.assertEqual(list(rows), kept)

    def test_wrong_rows(self):
        good = list(plain_columns(ROW, 5))
        for wrong in ("", "    5", "    5 | ", "    5 |.x...", "5 | .x...", "     5 | .x...", "    4 | .x...",
                      "    6 | .x...", "   05 | .x...", "    5 | .x..", "    5 | .x....", "    5 | .x..k",
                      "    5 | .x.. ", "    5 : .x...", " 5    | .x...", "    5 | .x...\n", "    5  | .x..."):
            self.check_wrong([good[0], wrong, good[2]], 1)
        for wrong in ("", "    0 | ", "    1 | x...x", "    0 | x...-", "    0 | " + "x" * 100, "    0| x...x", "x...x"):
            self.check_wrong([wrong], 0)
            self.check_wrong((wrong, good[1], good[2]), 0)
        for wrong in ("   10 | ", "   10 | ......", "   15 | ..", "   10 | .#", "  10 | .."):
            self.check_wrong(good[:2] + [wrong], 2)

    def test_only_the_last_row_may_be_shorter(self):
        self.assertEqual(read_columns(("    0 | ...", "    3 | .")), (0, 0, 0, 0))
        self.check_wrong(("    0 | ...", "    3 | .", "    4 | ."), 1)
        self.check_wrong(("    0 | ...", "    3 | ....", "    7 | ."), 1)
        self.check_wrong(("    0 | ...", "    3 | ...."), 1)
        self.check_wrong(("    0 | .", "    1 | ..", "    3 | .."), 1)
        self.check_wrong(("    0 | ", "    0 | "), 0)

    def test_first_wrong_row_of_bent_rows(self):
        chance = random.Random(453)
        wrong = 0
        for _ in range(400):
            width = chance.choice((1, 2, 3, 5, 99))
            rows = list(plain_columns(some_tape(chance, chance.randint(1, 3 * width)), width))
            at = chance.randrange(len(rows))
            place = chance.randrange(len(rows[at]))
            rows[at] = rows[at][:place] + chance.choice(("", " ", ".", "x", "K", "1", "..")) + rows[at][place + 1:]
            if would_write(rows):
                self.assertEqual(read_columns(rows), tuple(".xK".index(sign) for row in rows for sign in row[8:]))
                continue
            wrong += 1
            # A row that is right with another width makes a later one the first wrong one.
            first = next(index for index in range(len(rows)) if not self.could_go_on(rows, index))
            self.check_wrong(rows, first)
        self.assertGreater(wrong, 100)

    def could_go_on(self, rows, index):
        """Whether the rows up to this one could be the first rows of some columns, or all of them if it is the last."""
        if index == len(rows) - 1:
            return would_write(rows)
        width = len(rows[0]) - 8
        return would_write(rows[:index + 1]) and len(rows[index]) - 8 == width


class PieceRowsTest(unittest.TestCase):
    def test_known_rows(self):
        self.assertEqual(piece_rows(()), ())
        tape = (0, 0) + ROW + (2, 1, 2) + (1, 1) + (0,) * 5 + (1,)
        self.assertEqual(piece_rows(tape), (
            "    0 quiet      2", "    2 round     12", "   14 key        1", "   15 spoilt     1", "   16 key        1",
            "   17 odd        7", "   24 begun      1",
        ))

    def test_beside_plain_reckoning(self):
        chance = random.Random(454)
        for size in (1, 50, 300, 3000):
            tape = some_tape(chance, size)
            expected = []
            for at, (word, worth) in plain.pieces(tape):
                expected.append(str(at).rjust(5) + " " + word.ljust(6) + " " + str(worth).rjust(5))
            self.assertEqual(piece_rows(tape), tuple(expected))


if __name__ == "__main__":
    unittest.main()

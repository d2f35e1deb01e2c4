"""[10.15] and the heading pages.py."""

import random
import unittest

from tests import plain
from tests.services import some_service
from tests.shown import FAILING, SAFE
from tests.test_changes import some_change
from tests.test_tapedesk import plain_rows, some_run
from wheelchorus.errors import BadPage
from wheelchorus.pages import book_page, read_book, repairs_page
from wheelchorus.repairs import least_repairs

ROWS = (
    (("call", 12, "24", 1, (0, 2), ((1, 3),), 0), "    12 call 24   1 / 0 2 / 1>3 / 0"),
    (("call", 0, "9", 1, (), (), 6), "     0 call 9    1 / - / - / 6"),
    (("more", 999999, "1234", 3, (5,), ((0, 8), (5, 0)), 2), "999999 more 1234 3 / 5 / 0>8 5>0 / 2"),
    (("back", 1000000, "111", (0, 1, 2), ()), "1000000 back 111  0 1 2 / -"),
    (("back", 999999999, "3", (), (4,)), "999999999 back 3    - / 4"),
    # Crews and pairs may stand in any order, and twice.
    (("more", 7, "12", 2, (5, 0, 5, 5, 1, 0), ((5, 8), (0, 0), (5, 8)), 1),
     "     7 more 12   2 / 5 0 5 5 1 0 / 5>8 0>0 5>8 / 1"),
    (("back", 100, "12", (3, 3), (2, 1, 0, 2, 1, 0)), "   100 back 12   3 3 / 2 1 0 2 1 0"),
)
LINES = tuple(line for _, line in ROWS)


def plain_line(row):
    def words(things):
        return " ".join(map(str, things)) or "-"

    word, tick, number, *told = row
    if word == "back":
        parts = [words(told[0]), words(told[1])]
    else:
        parts = [str(told[0]), words(told[1]), words(f"{crew}>{station}" for crew, station in told[2]), str(told[3])]
    return str(tick).rjust(6) + " " + word.ljust(5) + number.ljust(5) + " / ".join(parts)


def some_row(chance):
    """A row within the limits."""
    word = chance.choice(("call", "more", "back"))
    tick = chance.choice((0, 5, 99999, 10 ** 6, 10 ** 9 - 1, chance.randrange(10 ** 9)))
    number = chance.choice(plain.ALL_NUMBERS)

    def crews():
        return tuple(chance.choices(range(6), k=chance.choice((0, 1, 2, 6))))

    if word == "back":
        return word, tick, number, crews(), crews()
    grade = 1 if word == "call" else chance.choice((2, 3))
    pairs = tuple((chance.randrange(6), chance.randrange(9)) for _ in range(chance.choice((0, 1, 3, 6))))
    return word, tick, number, grade, crews(), pairs, chance.randrange(7)


class BookPageTest(unittest.TestCase):
    def test_known(self):
        for row, line in ROWS:
            self.assertEqual(book_page([row]), (line,))
            self.assertEqual(read_book((line,)), (row,))
        rows = [row for row, _ in ROWS]
        for kind in (list, tuple):
            self.assertEqual(book_page(kind(rows)), LINES)
            self.assertEqual(read_book(kind(LINES)), tuple(rows))

    def test_no_rows(self):
        for nothing in ((), []):
            self.assertEqual(book_page(nothing), ())
            self.assertEqual(read_book(nothing), ())

    def test_by_chance(self):
        chance = random.Random(10151)
        rows = tuple(some_row(chance) for _ in range(3000))
        lines = book_page(rows)
        self.assertEqual(lines, tuple(map(plain_line, rows)))
        self.assertEqual(read_book(lines), rows)
        for row in read_book(lines)[:100]:
            self.assertIs(type(row), tuple)

    def test_runs(self):
        chance = random.Random(10152)
        for _ in range(20):
            rows = plain_rows(some_run(chance, some_service(chance), 100))
            self.assertEqual(read_book(book_page(rows)), rows)


class ReadBookErrorsTest(unittest.TestCase):
    def check(self, line):
        for lines, index in (([line], 0), ((LINES[0], line, None), 1), (LINES + (line,), len(LINES))):
            with self.assertRaises(BadPage) as caught:
                read_book(lines)
            self.assertEqual(caught.exception.line, index, line)

    def test_any_object(self):
        for thing in plain.ANY_OBJECTS + plain.WHOLE_NUMBERS + (" ", "    ", ROWS[0][0], [LINES[0]]):
            self.check(thing)

    def test_wrong_lines(self):
        for line in (
            # The tick: blanks, zeros, signs, too many digits.
            "   12 call 24   1 / 0 2 / 1>3 / 0", "     12 call 24   1 / 0 2 / 1>3 / 0", "12 call 24   1 / 0 2 / 1>3 / 0",
            "    02 call 24   1 / 0 2 / 1>3 / 0", "000012 call 24   1 / 0 2 / 1>3 / 0", "    -1 call 24   1 / 0 / - / 0",
            "1000000000 call 24   1 / 0 / - / 0", "0999999999 call 24   1 / - / - / 0", "    +1 call 24   1 / 0 / - / 0",
            "   1_2 call 24   1 / 0 2 / 1>3 / 0", "       call 24   1 / 0 2 / 1>3 / 0", " 99999999 call 24   1 / - / - / 0",
            # The word and the number.
            "    12 Call 24   1 / 0 2 / 1>3 / 0", "    12 calls24   1 / 0 2 / 1>3 / 0", "    12  call 24  1 / 0 2 / 1>3 / 0",
            "    12 pull 24   1 / 0 2 / 1>3 / 0", "    12 pull 24   2 / 0 2 / 1>3 / 0", "    12      24   2 / - / - / 0", "    12call  24   1 / 0 2 / 1>3 / 0", "    12 call 24  1 / 0 2 / 1>3 / 0",
            "    12 call 24    1 / 0 2 / 1>3 / 0", "    12 call  24  1 / 0 2 / 1>3 / 0", "    12 call 889  1 / 0 / - / 0",
            "    12 call 20   1 / 0 2 / 1>3 / 0", "    12 call 12345 1 / 0 / - / 0", "    12 call      1 / 0 2 / 1>3 / 0",
            # The grade.
            "    12 call 24   2 / 0 2 / 1>3 / 0", "    12 call 24   0 / 0 2 / 1>3 / 0", "    12 call 24   01 / 0 2 / 1>3 / 0",
            "    12 more 24   1 / 0 2 / 1>3 / 0", "    12 more 24   4 / 0 2 / 1>3 / 0", "    12 more 24   - / 0 2 / 1>3 / 0",
            "    12 more 24    / 0 2 / 1>3 / 0", "    12 more 24   22 / 0 2 / 1>3 / 0",
            # The crews.
            "    12 call 24   1 / 0  2 / 1>3 / 0", "    12 call 24   1 / 6 / 1>3 / 0", "    12 call 24   1 / 00 / 1>3 / 0",
            "    12 call 24   1 / 0 6 / - / 0", "    12 call 24   1 / 6 0 / - / 0", "    12 call 24   1 / 0 / 1>3 6>3 / 0",
            "    12 call 24   1 /  / 1>3 / 0", "    12 call 24   1 / - 0 / 1>3 / 0", "    12 call 24   1 / -1 / 1>3 / 0",
            "    12 call 24   1 / 0 0 0 0 0 0 0 / - / 0", "    12 call 24   1 / 0,2 / 1>3 / 0", "    12 call 24   1 / 0 2  / - / 0",
            "    12 back 24   6 / -", "    12 back 24   - / 6", "    12 back 24   - / 0 0 0 0 0 0 0", "    12 back 24   0 0 0 0 0 0 0 / -",
            # The pairs.
            "    12 call 24   1 / 0 / 6>3 / 0", "    12 call 24   1 / 0 / 1>9 / 0", "    12 call 24   1 / 0 / 1>3>4 / 0",
            "    12 call 24   1 / 0 / 13 / 0", "    12 call 24   1 / 0 / 1> / 0", "    12 call 24   1 / 0 / 1>3  2>3 / 0",
            "    12 call 24   1 / 0 / 1 > 3 / 0", "    12 call 24   1 / 0 / 01>3 / 0", "    12 call 24   1 / 0 /  / 0",
            "    12 call 24   1 / 0 / 0>0 0>0 0>0 0>0 0>0 0>0 0>0 / 0",
            # What is short.
            "    12 call 24   1 / 0 / - / 7", "    12 call 24   1 / 0 / - / -", "    12 call 24   1 / 0 / - / 00",
            "    12 call 24   1 / 0 / - / ", "    12 call 24   1 / 0 / - / 0 ", "    12 call 24   1 / 0 / - / 0\n",
            # The parts.
            "    12 call 24   1 / 0 / -", "    12 call 24   1 / 0 / - / 0 / 0", "    12 call 24   1", "    12 call 24   ",
            "    12 back 24   -", "    12 back 24   - / - / -", "    12 back 24   1 / - / - / 0", "    12 more 24   0 / -",
            "    12 call 24   1/0/-/0", "    12 call 24   1 / 0 2/ 1>3 / 0", "    12 call", "    12", "call", "/ / /",
        ):
            self.check(line)

    def test_lines_changed_by_chance(self):
        """A changed line is refused, or is itself the line of another row."""
        chance = random.Random(10153)
        refused = 0
        for _ in range(4000):
            line = chance.choice(LINES)
            at = chance.randrange(len(line) + 1)
            way = chance.randrange(3)
            sign = chance.choice(" 0123456789-/>abckllmore\n")
            line = line[:at] + (sign if way else "") + line[at + (way < 2):]
            try:
                (row,) = read_book([line])
            except BadPage:
                refused += 1
                continue
            self.assertEqual(plain_line(row), line)
        self.assertGreater(refused, 2000)


class RepairsPageTest(unittest.TestCase):
    def test_known(self):
        service = FAILING["houses"]
        repairs = least_repairs(service, [("need", "5", 1), ("ring", "5", "sosos"), ("rounds", 1), ("sort", "24", "shy")])
        page = repairs_page(repairs)
        self.assertEqual(len(page), 16)
        self.assertEqual(page[:5], (
            "-           houses  -", "0           safe    least firm", "1           safe    least firm",
            "2           cannot  -", "3           houses  -"))
        self.assertEqual(page[-1], "0 1 2 3     cannot  -")
        self.assertIn("0 3         safe    firm", page)

    def test_by_chance(self):
        chance = random.Random(10154)
        words = {}
        for _ in range(40):
            service = SAFE if chance.random() < 0.6 else some_service(chance, most=0)
            repairs = least_repairs(service, [some_change(chance, service) for _ in range(chance.randint(0, 4))])
            expected = []
            for chosen, _ in repairs.entries:
                told = "least firm" if chosen in repairs.least and chosen in repairs.firm else (
                    "least" if chosen in repairs.least else "firm" if chosen in repairs.firm else "-")
                indexes = " ".join(map(str, chosen)) or "-"
                expected.append(indexes.ljust(12) + repairs.fate(chosen).ljust(8) + told)
                words[told] = words.get(told, 0) + 1
            self.assertEqual(repairs_page(repairs), tuple(expected))
        for word in ("least firm", "least", "firm", "-"):
            self.assertGreater(words.get(word, 0), 2, word)


if __name__ == "__main__":
    unittest.main()

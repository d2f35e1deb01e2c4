"""[1.1] to [1.4] and the heading numbers.py."""

import random
import unittest

from tests import plain
from wheelchorus.errors import BadNumber
from wheelchorus.numbers import blocks, goes_ahead, is_number, length_of, number_of, row_of

NO_NUMBERS = (
    "", "0", "10", "102", "11111", "998", "9997", "8881", "7999", "12\n", "\n12", " 12", "12 ", "+1", "-1", "1.0",
    "\u00b2", "\u0661", "\uff11", "one", "999999999", 1, 12, 0, -1, 10 ** 39, 1111, (1, 2), ["12"], ("12",),
    {"12": "12"}, {}, [], (), None, True, False, [["1"]],
)


class NumbersTest(unittest.TestCase):
    def test_all_numbers_are_numbers(self):
        for number in plain.ALL_NUMBERS:
            self.assertIs(is_number(number), True)

    def test_all_other_strings_of_four_digits_are_none(self):
        known = set(plain.ALL_NUMBERS)
        for worth in range(11000):
            self.assertIs(is_number(str(worth)), str(worth) in known)
            self.assertIs(is_number(str(worth).zfill(4)), str(worth).zfill(4) in known)

    def test_digit_sums_24_and_25(self):
        for number in ("888", "996", "6666", "9951", "1599"):
            self.assertIs(is_number(number), True, number)
        for text in ("889", "997", "6667", "9952", "9999"):
            self.assertIs(is_number(text), False, text)

    def test_no_numbers(self):
        for thing in NO_NUMBERS:
            self.assertIs(is_number(thing), False, thing)
        for thing in plain.ANY_OBJECTS + plain.WHOLE_NUMBERS:
            self.assertIs(is_number(thing), False, thing)

    def test_row_of_the_document(self):
        self.assertEqual(row_of("12"), (1, 0, 0, 0, 1, 0, 1, 0, 0, 0, 0, 0))
        self.assertEqual(row_of("1"), (1, 0, 0, 0, 0, 0))

    def test_rows_lengths_and_blocks_of_all_numbers(self):
        for number in plain.ALL_NUMBERS:
            row = row_of(number)
            digits = tuple(int(digit) for digit in number)
            self.assertIs(type(row), tuple)
            self.assertEqual(list(row), plain.row(number))
            self.assertEqual({type(sign) for sign in row}, {int})
            self.assertEqual(length_of(number), len(row))
            self.assertEqual(length_of(number), 2 * (sum(digits) + len(digits) + 1))
            self.assertLessEqual(length_of(number), 58)
            self.assertEqual(blocks(number), digits)
            self.assertIs(type(blocks(number)), tuple)
        self.assertEqual(max(length_of(number) for number in plain.ALL_NUMBERS), 58)

    def test_what_rows_have_in_common(self):
        for number in plain.ALL_NUMBERS:
            text = plain.signs_text(row_of(number))
            self.assertTrue(text.startswith("1"))
            self.assertTrue(text.endswith("100000"))
            self.assertNotIn("0000", text.rstrip("0"))
            self.assertNotIn("1", text[1::2])

    def test_errors(self):
        for thing in NO_NUMBERS:
            for call in (row_of, length_of, blocks):
                with self.assertRaises(BadNumber) as caught:
                    call(thing)
                self.assertIs(caught.exception.number, thing)


class NumberOfTest(unittest.TestCase):
    def test_all_rows(self):
        for number in plain.ALL_NUMBERS:
            self.assertEqual(number_of(row_of(number)), number)
            self.assertEqual(number_of(list(row_of(number))), number)

    def test_bent_rows(self):
        rows = {tuple(plain.row(number)): number for number in plain.ALL_NUMBERS}
        for number in plain.some_numbers(1, 400) + ["1", "9", "888", "6666", "1111"]:
            row = plain.row(number)
            bent = [row[:-1], row + [0], row[1:], [0] + row, row + row, row[::-1], row[:-2], row + [0, 0]]
            for at in range(len(row)):
                bent.append(row[:at] + [1 - row[at]] + row[at + 1:])
                bent.append(row[:at] + row[at + 1:])
                bent.append(row[:at] + [row[at]] + row[at:])
            for other in bent:
                self.assertEqual(number_of(other), rows.get(tuple(other)), other)
                self.assertEqual(number_of(tuple(other)), rows.get(tuple(other)))

    def test_true_and_false_are_no_signs(self):
        row = plain.row("12")
        for at, sign in enumerate(row):
            self.assertIsNone(number_of(row[:at] + [bool(sign)] + row[at + 1:]))
        self.assertIsNone(number_of([bool(sign) for sign in row]))

    def test_any_objects_in_a_row(self):
        row = plain.row("12")
        for thing in plain.ANY_OBJECTS + (2, -1, 10, 10 ** 39, -10 ** 39, "1", "0"):
            for at in range(len(row)):
                self.assertIsNone(number_of(row[:at] + [thing] + row[at + 1:]))
            self.assertIsNone(number_of([thing]))
            self.assertIsNone(number_of((thing, thing)))

    def test_what_is_no_row(self):
        for row in ((), [], (0,), (1,), (0, 0), [0] * 5, [1] * 12, [1, 0] * 10 + [0] * 4, [1, 0] * 12 + [0] * 4):
            self.assertIsNone(number_of(row))
        # Digits that would be too many, too great or 0.
        self.assertIsNone(number_of([1, 0, 0, 0] * 5 + [0, 0]))
        self.assertIsNone(number_of(([1, 0] * 9 + [0, 0]) * 3 + [0, 0]))
        self.assertIsNone(number_of([1, 0, 0, 0, 0, 0, 1, 0, 0, 0, 0, 0]))
        self.assertEqual(number_of([1, 0] * 9 + [0, 0] * 2), "9")
        self.assertIsNone(number_of([0, 1] * 5000))

    def test_the_row_is_not_changed(self):
        row = plain.row("31")
        kept = list(row)
        number_of(row)
        self.assertEqual(row, kept)


class GoesAheadTest(unittest.TestCase):
    def test_ordinary_pairs(self):
        self.assertIs(goes_ahead("2", "1"), True)
        self.assertIs(goes_ahead("1", "2"), False)
        self.assertIs(goes_ahead("11", "1"), True)
        self.assertIs(goes_ahead("21", "12"), True)
        self.assertIs(goes_ahead("112", "111"), True)

    def test_not_ahead_of_itself(self):
        for number in plain.ALL_NUMBERS:
            self.assertIs(goes_ahead(number, number), False)

    def test_many_pairs(self):
        chance = random.Random(2)
        rows = {number: plain.row(number) for number in plain.ALL_NUMBERS}
        for _ in range(20000):
            one, other = chance.sample(plain.ALL_NUMBERS, 2)
            first = next(at for at in range(58) if rows[one][at] != rows[other][at])
            self.assertIs(goes_ahead(one, other), rows[one][first] == 1)
            self.assertIs(goes_ahead(other, one), rows[one][first] == 0)

    def test_the_first_wrong_number_is_told(self):
        for thing in NO_NUMBERS:
            for one, other in ((thing, "1"), ("1", thing), (thing, "0"), (thing, [])):
                with self.assertRaises(BadNumber) as caught:
                    goes_ahead(one, other)
                self.assertIs(caught.exception.number, thing)


if __name__ == "__main__":
    unittest.main()

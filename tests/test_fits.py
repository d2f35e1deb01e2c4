"""[2.1], [2.3] and the heading fits.py."""

import random
import unittest

from tests import plain
from wheelchorus.errors import BadNumber
from wheelchorus.fits import fit_blocks, fits, fits_by_ticks, train_fits


def plain_fits(number, within):
    room = plain.strokes(within)
    return tuple(
        at for at in range(0, len(plain.row(within)), 2)
        if {at + offset for offset in plain.strokes(number)} <= room
    )


def plain_train_fits(number, within, rounds, at):
    """[2.3] word by word."""
    if at not in plain_fits(number, within):
        return False
    length = len(plain.row(number))
    if rounds > 1 and at + length < len(plain.row(within)):
        return plain_train_fits(number, within, rounds - 1, at + length)
    return True


def plain_homes(number, within, at):
    """The index of the block of each stroke, told by counting the gaps of four ticks ahead of it."""
    def block_of(row, offset):
        text = plain.signs_text(row[:offset + 1])
        return sum(text.startswith("10001", start) for start in range(len(text)))
    if not {at + offset for offset in plain.strokes(number)} <= plain.strokes(within):
        return ()
    row, room = plain.row(number), plain.row(within)
    homes = {}
    for offset in sorted(plain.strokes(number)):
        homes.setdefault(block_of(row, offset), set()).add(block_of(room, at + offset))
    assert all(len(found) == 1 for found in homes.values())
    return tuple(found.pop() for found in homes.values())


def some_pairs(seed, many):
    chance = random.Random(seed)
    small = [number for number in plain.ALL_NUMBERS if len(plain.row(number)) <= 16]
    pairs = [(chance.choice(small), chance.choice(plain.ALL_NUMBERS)) for _ in range(many)]
    pairs += [tuple(chance.sample(plain.ALL_NUMBERS, 2)) for _ in range(many)]
    return pairs + [(number, number) for number in chance.sample(plain.ALL_NUMBERS, 30)]


class FitsTest(unittest.TestCase):
    def test_known_fits(self):
        self.assertEqual(fits("1", "3"), (0, 2, 4))
        self.assertEqual(fits("2", "3"), (0, 2))
        self.assertEqual(fits("3", "3"), (0,))
        self.assertEqual(fits("4", "3"), ())
        self.assertEqual(fits("1", "12"), (0, 4, 6))
        self.assertEqual(fits("11", "22"), (2,))
        self.assertEqual(fits("11", "212"), (2, 6))

    def test_both_ways_beside_plain_reckoning(self):
        for number, within in some_pairs(6, 300):
            expected = plain_fits(number, within)
            self.assertEqual(fits(number, within), expected, (number, within))
            self.assertEqual(fits_by_ticks(number, within), expected)

    def test_every_number_fits_into_itself_at_0_alone(self):
        for number in plain.some_numbers(7, 200):
            self.assertEqual(fits(number, number), (0,))
            self.assertEqual(fits_by_ticks(number, number), (0,))

    def test_fit_blocks(self):
        self.assertEqual(fit_blocks("11", "212", 2), (0, 1))
        self.assertEqual(fit_blocks("11", "212", 6), (1, 2))
        self.assertEqual(fit_blocks("1", "212", 8), ())
        self.assertEqual(fit_blocks("1", "212", 10), (2,))
        self.assertEqual(fit_blocks("2", "3", 1), ())
        for number, within in some_pairs(8, 150):
            for at in range(-4, len(plain.row(within)) + 4):
                self.assertEqual(fit_blocks(number, within, at), plain_homes(number, within, at))

    def test_fit_blocks_far_away(self):
        for at in (10 ** 39, 10 ** 39 + 1, -10 ** 39, -10 ** 39 - 1):
            self.assertEqual(fit_blocks("1", "9", at), ())

    def test_train_fits_beside_plain_reckoning(self):
        for number, within in some_pairs(9, 100):
            for rounds in range(1, 9):
                expected = tuple(
                    at for at in plain_fits(number, within) if plain_train_fits(number, within, rounds, at)
                )
                self.assertEqual(train_fits(number, within, rounds), expected, (number, within, rounds))

    def test_trains_at_the_end_of_the_other_row(self):
        # The row of "22" has 14 ticks, strokes at 0, 2, 6 and 8; a round of "1" has 6.
        self.assertEqual(train_fits("1", "22", 1), (0, 2, 6, 8))
        self.assertEqual(train_fits("1", "22", 2), (0, 2, 8))
        self.assertEqual(train_fits("1", "22", 3), (2, 8))
        # A round that begins just at the end, at 14, needs no fit; one that begins at 12 does.
        self.assertEqual(train_fits("1", "22", 8), (2, 8))
        self.assertEqual(train_fits("9", "9", 8), (0,))
        self.assertEqual(train_fits("4", "3", 1), ())

    def test_errors(self):
        for thing in plain.ANY_OBJECTS + ("889", 12):
            for call in (fits, fits_by_ticks, lambda a, b: fit_blocks(a, b, 0), lambda a, b: fit_blocks(a, b, 1),
                         lambda a, b: fit_blocks(a, b, -1), lambda a, b: train_fits(a, b, 1)):
                for pair in ((thing, "12"), ("12", thing), ("4", thing), (thing, "0"), (thing, [1])):
                    with self.assertRaises(BadNumber) as caught:
                        call(*pair)
                    self.assertIs(caught.exception.number, thing)


if __name__ == "__main__":
    unittest.main()

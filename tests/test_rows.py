"""[1.5], [1.6] and the heading rows.py."""

import random
import unittest

from tests import plain
from wheelchorus.errors import BadNumber, BadOffset
from wheelchorus.numbers import length_of
from wheelchorus.rows import Strokes, pattern, strokes_of

FAR = 12345678901234567890123456789
NO_OFFSETS = (-1, -FAR, None, True, False, "0", "", [], (), {}, [0], (0, 1), {0: 1}, [[True]])


class StrokesTest(unittest.TestCase):
    def check(self, strokes, offsets):
        self.assertIs(type(strokes), Strokes)
        self.assertEqual(strokes.offsets, tuple(sorted(offsets)))
        self.assertIs(type(strokes.offsets), tuple)
        self.assertEqual(list(strokes), sorted(offsets))
        self.assertEqual(len(strokes), len(offsets))
        self.assertEqual(strokes.lowest, min(offsets, default=None))

    def test_making(self):
        self.check(Strokes(), set())
        self.check(Strokes([]), set())
        self.check(Strokes(()), set())
        self.check(Strokes((4, 0, 6)), {0, 4, 6})
        self.check(Strokes([5, 5, 0, 5, 0]), {0, 5})
        self.check(Strokes([FAR, 3, FAR + 1, 0]), {0, 3, FAR, FAR + 1})
        self.check(Strokes(offsets=[1]), {1})

    def test_the_first_wrong_offset_is_told(self):
        for thing in NO_OFFSETS:
            for offsets in ([thing], (1, thing), [1, thing, -5], (2, 2, thing, None)):
                with self.assertRaises(BadOffset) as caught:
                    Strokes(offsets)
                self.assertIs(caught.exception.offset, thing)

    def test_a_list_is_neither_kept_nor_changed(self):
        offsets = [3, 1, 1]
        strokes = Strokes(offsets)
        self.assertEqual(offsets, [3, 1, 1])
        offsets.append(7)
        self.check(strokes, {1, 3})

    def test_in(self):
        strokes = Strokes([0, 1, 4, FAR])
        for offset in (0, 1, 4, FAR):
            self.assertIs(offset in strokes, True)
        for thing in (2, 3, 5, -1, FAR + 1) + NO_OFFSETS:
            self.assertIs(thing in strokes, False)
        self.assertIs(strokes in strokes, False)

    def test_equality(self):
        self.assertTrue(Strokes([1, 2]) == Strokes((2, 1, 2)))
        self.assertFalse(Strokes([1, 2]) == Strokes([1]))
        self.assertFalse(Strokes([1, 2]) == Strokes([1, 3]))
        self.assertTrue(Strokes([1, 2]) != Strokes([1]))
        self.assertFalse(Strokes([1]) != Strokes([1]))
        self.assertTrue(Strokes() == Strokes())
        for thing in ((1, 2), [1, 2], {1, 2}, None, 1, "12", {}, (), []):
            self.assertFalse(Strokes([1, 2]) == thing)
            self.assertFalse(thing == Strokes([1, 2]))
            self.assertFalse(Strokes() == thing)

    def test_operators_beside_sets(self):
        chance = random.Random(3)
        for _ in range(300):
            one = {chance.randrange(30) for _ in range(chance.randrange(12))}
            other = {chance.randrange(30) for _ in range(chance.randrange(12))}
            left, right = Strokes(list(one)), Strokes(list(other))
            self.check(left | right, one | other)
            self.check(left & right, one & other)
            self.check(left - right, one - other)
            self.assertIs(left.within(right), one <= other)
            end = chance.randint(-2, 32)
            self.check(left.cut(end), {offset for offset in one if offset < end})
            ticks = chance.choice((0, 1, 2, 17, FAR))
            self.check(left >> ticks, {offset + ticks for offset in one})
            self.check(left, one)
            self.check(right, other)

    def test_shift(self):
        strokes = Strokes([0, 4])
        self.check(strokes >> 0, {0, 4})
        self.check(strokes >> FAR, {FAR, FAR + 4})
        self.check(Strokes() >> 3, set())
        for thing in NO_OFFSETS:
            for shifted in (strokes, Strokes()):
                with self.assertRaises(BadOffset) as caught:
                    shifted >> thing
                self.assertIs(caught.exception.offset, thing)

    def test_cut_at_and_below_an_offset_and_below_0(self):
        strokes = Strokes([0, 4, FAR])
        self.check(strokes.cut(4), {0})
        self.check(strokes.cut(5), {0, 4})
        self.check(strokes.cut(3), {0})
        self.check(strokes.cut(0), set())
        self.check(strokes.cut(1), {0})
        self.check(strokes.cut(-1), set())
        self.check(strokes.cut(-FAR), set())
        self.check(strokes.cut(FAR), {0, 4})
        self.check(strokes.cut(10 ** 39), {0, 4, FAR})

    def test_within(self):
        self.assertIs(Strokes().within(Strokes()), True)
        self.assertIs(Strokes().within(Strokes([1])), True)
        self.assertIs(Strokes([1]).within(Strokes()), False)
        self.assertIs(Strokes([1, FAR]).within(Strokes([0, 1, FAR])), True)
        self.assertIs(Strokes([1]).within(Strokes([0, 2])), False)


class PatternTest(unittest.TestCase):
    def test_strokes_of_all_numbers(self):
        for number in plain.ALL_NUMBERS:
            self.assertEqual(list(strokes_of(number)), sorted(plain.strokes(number)))
        self.assertEqual(strokes_of("12").offsets, (0, 4, 6))

    def test_patterns(self):
        for number in plain.some_numbers(4, 100) + ["1", "6666"]:
            self.assertEqual(pattern(number), strokes_of(number))
            for times in (0, 1, 2, 3, 20):
                expected = sorted(plain.train(number, 0, times))
                self.assertEqual(list(pattern(number, times)), expected)
                self.assertEqual(list(pattern(number, times=times)), expected)
        self.assertEqual(pattern("12", 0), Strokes())
        self.assertEqual(pattern("12", 2).offsets, (0, 4, 6, 12, 16, 18))
        self.assertEqual(len(pattern("888", 20)), 480)
        self.assertEqual(max(pattern("1", 20)), 19 * length_of("1"))

    def test_errors(self):
        for thing in plain.ANY_OBJECTS + ("0", "889", "11111", 12):
            for call in (strokes_of, pattern, lambda one: pattern(one, 0), lambda one: pattern(one, 20)):
                with self.assertRaises(BadNumber) as caught:
                    call(thing)
                self.assertIs(caught.exception.number, thing)


if __name__ == "__main__":
    unittest.main()

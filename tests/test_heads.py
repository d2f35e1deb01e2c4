"""[2.4] and the heading heads.py."""

import random
import unittest

from tests import plain
from wheelchorus.errors import BadNumber
from wheelchorus.heads import head_of, shared, step_back
from wheelchorus.rows import Strokes, pattern, strokes_of


def plain_step_back(number, offsets):
    row = plain.row(number)
    return next((at for at in range(len(row)) if at in offsets and not row[at]), None)


def plain_head(number, offsets):
    end = plain_step_back(number, offsets)
    head = {at for at in plain.strokes(number) if end is None or at < end}
    return head if head <= offsets else set()


class HeadsTest(unittest.TestCase):
    def check(self, number, offsets):
        under = Strokes(sorted(offsets))
        self.assertEqual(step_back(number, under), plain_step_back(number, offsets))
        head = head_of(number, under)
        self.assertIs(type(head), Strokes)
        self.assertEqual(list(head), sorted(plain_head(number, offsets)))

    def test_known_heads(self):
        # "12" has strokes at 0, 4 and 6.
        self.assertEqual(step_back("12", strokes_of("12")), None)
        self.assertEqual(head_of("12", strokes_of("12")), strokes_of("12"))
        self.assertEqual(step_back("12", strokes_of("2")), 2)
        self.assertEqual(head_of("12", strokes_of("2")), Strokes([0]))
        self.assertEqual(step_back("12", Strokes([1])), 1)
        self.assertEqual(head_of("12", Strokes([1])), Strokes())
        self.assertEqual(head_of("12", Strokes([0, 1])), Strokes([0]))

    def test_it_never_steps_back(self):
        # Nothing stands in the pattern beside its own strokes, or only from its row's end on.
        for offsets in ({0, 4, 6}, {0, 4, 6, 12}, {0, 4, 6, 13, 99}, set(), {0}, {12}):
            self.assertIsNone(step_back("12", Strokes(list(offsets))))
            self.check("12", offsets)
        self.assertEqual(head_of("12", Strokes()), Strokes())
        self.assertEqual(head_of("12", Strokes([0, 4])), Strokes())

    def test_it_steps_back_at_its_last_tick(self):
        self.assertEqual(step_back("12", Strokes([0, 4, 6, 11])), 11)
        self.assertEqual(head_of("12", Strokes([0, 4, 6, 11])), strokes_of("12"))

    def test_beside_plain_reckoning(self):
        chance = random.Random(10)
        for _ in range(1500):
            number, other = chance.choice(plain.ALL_NUMBERS), chance.choice(plain.ALL_NUMBERS)
            offsets = set(plain.strokes(other))
            for _ in range(chance.randrange(3)):
                offsets ^= {chance.randrange(60)}
            self.check(number, offsets)
            self.check(number, offsets & set(range(0, 60, 2)))

    def test_pattern_is_not_changed(self):
        under = pattern("24", 2)
        head_of("3", under)
        self.assertEqual(under, pattern("24", 2))

    def test_shared(self):
        self.assertEqual(shared("12", "2"), 2)
        self.assertEqual(shared("12", "12"), 12)
        self.assertEqual(shared("1", "11"), 4)
        chance = random.Random(11)
        for _ in range(3000):
            one, other = chance.sample(plain.ALL_NUMBERS, 2)
            first = next(at for at in range(58) if plain.row(one)[at] != plain.row(other)[at])
            self.assertEqual(shared(one, other), first)
            self.assertEqual(shared(other, one), first)
            self.assertEqual(shared(one, one), len(plain.row(one)))

    def test_errors(self):
        for thing in plain.ANY_OBJECTS + ("889", 12):
            for call in (lambda: step_back(thing, Strokes([0])), lambda: head_of(thing, Strokes()),
                         lambda: shared(thing, "1"), lambda: shared("1", thing), lambda: shared(thing, "0")):
                with self.assertRaises(BadNumber) as caught:
                    call()
                self.assertIs(caught.exception.number, thing)


if __name__ == "__main__":
    unittest.main()

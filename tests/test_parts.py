"""[3.5] and the heading parts.py."""

import itertools
import unittest

from wheelchorus.parts import dumb_numbers, dumb_part, far_part, near_part, wires
from wheelchorus.town import Town


def all_cuts(many):
    """All ascending tuples of stretches of a loop of so many boxes."""
    return [cuts for size in range(many + 2) for cuts in itertools.combinations(range(many + 1), size)]


class PartsTest(unittest.TestCase):
    def test_known_parts(self):
        boxes = ("a", "b", "c", "d")
        self.assertEqual(near_part(boxes, ()), boxes)
        self.assertEqual(far_part(boxes, ()), boxes)
        self.assertEqual(dumb_part(boxes, ()), ())
        self.assertEqual(near_part(boxes, (1,)), ("a",))
        self.assertEqual(far_part(boxes, (1,)), ("b", "c", "d"))
        self.assertEqual(dumb_part(boxes, (1,)), ())
        self.assertEqual(near_part(boxes, (1, 3)), ("a",))
        self.assertEqual(far_part(boxes, (1, 3)), ("d",))
        self.assertEqual(dumb_part(boxes, (1, 3)), ("b", "c"))
        # Cuts ahead of all boxes, and behind all boxes.
        self.assertEqual(near_part(boxes, (0,)), ())
        self.assertEqual(far_part(boxes, (0,)), boxes)
        self.assertEqual(near_part(boxes, (4,)), boxes)
        self.assertEqual(far_part(boxes, (4,)), ())
        self.assertEqual(dumb_part(boxes, (0, 4)), boxes)

    def test_all_cuts_of_small_loops(self):
        for many in range(1, 6):
            boxes = tuple((place, [place]) for place in range(many))
            for cuts in all_cuts(many):
                near = tuple(box for box in boxes if all(box[0] < cut for cut in cuts))
                far = tuple(box for box in boxes if all(box[0] >= cut for cut in cuts))
                dumb = tuple(box for box in boxes if box not in near and box not in far)
                for found, expected in zip((near_part(boxes, cuts), far_part(boxes, cuts), dumb_part(boxes, cuts)),
                                           (near, far, dumb)):
                    self.assertIs(type(found), tuple)
                    self.assertEqual(found, expected)

    def test_wires(self):
        town = Town([[("1", "plain"), ("2", "shy"), ("3", "shy")], [("4", "plain")], [("5", "shy"), ("6", "plain")]],
                    rounds=2)
        none = ((), (), ())
        self.assertEqual(wires(town, none, False), (("1", "2", "3"), ("4",), ("5", "6")))
        self.assertEqual(wires(town, none, True), (("1", "2", "3", "4", "5", "6"),))
        self.assertEqual(dumb_numbers(town, none), ())
        cuts = ((1, 2), (0,), (0, 1, 2))
        self.assertEqual(wires(town, cuts, False), (("1",), ("3",), (), ("4",), (), ()))
        self.assertEqual(wires(town, cuts, True), (("1", "3", "4"),))
        self.assertEqual(dumb_numbers(town, cuts), ("2", "5", "6"))
        cuts = ((), (1,), ())
        self.assertEqual(wires(town, cuts, False), (("1", "2", "3"), ("4",), (), ("5", "6")))
        self.assertEqual(wires(town, cuts, True), (("1", "2", "3", "4", "5", "6"),))
        self.assertEqual(wires(town, ((0, 3), (0, 1), (0, 2)), True), ((),))

    def test_wires_beside_the_parts(self):
        town = Town([[("1", "plain"), ("2", "shy")], [("3", "shy"), ("4", "plain"), ("5", "shy")]], rounds=1)
        for first in all_cuts(2):
            for second in all_cuts(3):
                parts, dumb = [], []
                for numbers, cuts in ((("1", "2"), first), (("3", "4", "5"), second)):
                    parts += [near_part(numbers, cuts), far_part(numbers, cuts)] if cuts else [numbers]
                    dumb += dumb_part(numbers, cuts)
                self.assertEqual(wires(town, (first, second), False), tuple(parts))
                self.assertEqual(wires(town, (first, second), True), (sum(parts, ()),))
                self.assertEqual(dumb_numbers(town, (first, second)), tuple(dumb))


if __name__ == "__main__":
    unittest.main()

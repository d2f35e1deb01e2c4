"""[1.7], [1.8] and the heading town.py."""

import unittest

from tests import plain
from wheelchorus.errors import BadTown, NoBox, NoLoop
from wheelchorus.town import Town

LOOPS = ((("24", "plain"), ("3", "shy")), (("2111", "shy"),))


def boxes(many, start=1):
    return [(str(number), "plain") for number in plain.ALL_NUMBERS[start:start + many]]


class TownCase(unittest.TestCase):
    def check_bad(self, what, loops, rounds=3, hear=1):
        with self.assertRaises(BadTown) as caught:
            Town(loops, rounds=rounds, hear=hear)
        self.assertEqual(caught.exception.what, what)


class MakingTest(TownCase):
    def test_attributes(self):
        town = Town(LOOPS, rounds=3, hear=2)
        self.assertEqual(town.loops, LOOPS)
        self.assertEqual((town.rounds, town.hear), (3, 2))
        self.assertEqual(town.numbers, ("24", "3", "2111"))
        self.assertEqual(Town(LOOPS, rounds=1).hear, 1)
        self.assertEqual((Town.PLAIN, Town.SHY), ("plain", "shy"))

    def test_lists_become_tuples_and_are_not_kept(self):
        loops = [[["24", "plain"], ("3", "shy")], [["2111", "shy"]]]
        town = Town(loops, rounds=3)
        self.assertEqual(loops, [[["24", "plain"], ("3", "shy")], [["2111", "shy"]]])
        self.assertEqual(town.loops, LOOPS)
        loops[0][0][1] = "shy"
        loops[0].append(("1", "shy"))
        loops.append([])
        self.assertEqual(town.loops, LOOPS)
        self.assertEqual(town, Town(LOOPS, rounds=3))

    def test_sizes(self):
        for many in (1, 3):
            for size in (1, 10):
                loops = [boxes(size, 20 * index) for index in range(many)]
                town = Town(loops, rounds=1)
                self.assertEqual(len(town.numbers), many * size)
                self.assertEqual([len(loop) for loop in town.loops], [size] * many)
        self.check_bad("loops", [])
        self.check_bad("loops", ())
        self.check_bad("loops", [boxes(1, 20 * index) for index in range(4)])
        self.check_bad("loops", [boxes(11)])
        self.check_bad("loops", [boxes(1), []])
        self.check_bad("loops", [boxes(1), ()])

    def test_rounds_and_hear(self):
        for rounds in range(1, 9):
            self.assertEqual(Town(LOOPS, rounds=rounds).rounds, rounds)
            if rounds >= 2:
                self.assertEqual(Town(LOOPS, rounds=rounds, hear=2).hear, 2)
        for thing in (0, 9, -1, 10 ** 39, "3", (3,)) + plain.ANY_OBJECTS:
            self.check_bad("rounds", LOOPS, rounds=thing)
            self.check_bad("rounds", LOOPS, rounds=thing, hear=thing)
        for thing in (0, 3, -1, 10 ** 39, "1", (1,)) + plain.ANY_OBJECTS:
            self.check_bad("hear", LOOPS, hear=thing)
        self.check_bad("hear", LOOPS, rounds=1, hear=2)
        self.assertEqual(Town(LOOPS, rounds=2, hear=2).hear, 2)

    def test_equality(self):
        town = Town(LOOPS, rounds=3, hear=2)
        self.assertTrue(town == Town([[list(box) for box in loop] for loop in LOOPS], rounds=3, hear=2))
        self.assertFalse(town == Town(LOOPS, rounds=4, hear=2))
        self.assertFalse(town == Town(LOOPS, rounds=3, hear=1))
        self.assertFalse(town == Town(LOOPS[:1], rounds=3, hear=2))
        self.assertFalse(town == Town(LOOPS[::-1], rounds=3, hear=2))
        self.assertTrue(town != town.with_sort("3", "plain"))
        for thing in (LOOPS, None, "town", 3, ()):
            self.assertFalse(town == thing)


class WrongTest(TownCase):
    def test_loops(self):
        for thing in (None, True, 3, "24", "", {}, {"24": "plain"}):
            self.check_bad("loops", thing)
            self.check_bad("loops", [thing])
            self.check_bad("loops", [boxes(1), thing])

    def test_box(self):
        for thing in (None, True, 3, "24", "ab", "", {}, {"24": "plain", "3": "shy"}, (), ("24",),
                      ("24", "plain", "shy"), [], ["24"], ["24", "plain", 0]):
            self.check_bad("box", [[thing]])
            self.check_bad("box", [boxes(2), boxes(2, 30) + [thing]])

    def test_number(self):
        for thing in plain.ANY_OBJECTS + ("889", "11111", 24, ["24"]):
            self.check_bad("number", [[(thing, "plain")]])
            self.check_bad("number", [boxes(2), [[thing, "shy"]]])

    def test_sort(self):
        for thing in plain.ANY_OBJECTS + (0, "Plain", "shy ", "plain\n", ["shy"], ("plain",)):
            self.check_bad("sort", [[("24", thing)]])
            self.check_bad("sort", [boxes(2), [["24", thing]]])

    def test_double(self):
        self.check_bad("double", [[("24", "plain"), ("24", "plain")]])
        self.check_bad("double", [[("24", "plain")], [("3", "shy")], [("24", "shy")]])

    def test_the_words_come_in_their_order_over_the_whole_town(self):
        faults = {
            "box": "3",
            "number": ("0", "plain"),
            "sort": ("4", "loud"),
            "double": ("24", "plain"),
        }
        words = list(faults)
        for one in range(len(words)):
            for other in range(one + 1, len(words)):
                # The fault that is told later stands in an earlier box.
                first = [("24", "plain"), faults[words[other]]]
                self.check_bad(words[one], [first, [faults[words[one]]]], rounds=0, hear=0)
                self.check_bad(words[one], [first + [faults[words[one]]]], rounds=0, hear=0)
            self.check_bad("loops", [[("24", "plain"), faults[words[one]]], []], rounds=0, hear=0)
            self.check_bad("loops", [[("24", "plain"), faults[words[one]]], None], rounds=0, hear=0)
        self.check_bad("rounds", LOOPS, rounds=9, hear=3)
        self.check_bad("double", [[("24", "plain"), ("24", "plain")]], rounds=9)


class AskingTest(TownCase):
    def setUp(self):
        self.town = Town(LOOPS, rounds=3, hear=2)

    def test_sites(self):
        for loop, row in enumerate(LOOPS):
            for place, (number, sort) in enumerate(row):
                self.assertEqual(self.town.sort_of(number), sort)
                self.assertEqual(self.town.loop_of(number), loop)
                self.assertEqual(self.town.place_of(number), place)

    def test_no_box(self):
        for thing in plain.ANY_OBJECTS + plain.WHOLE_NUMBERS + ("4", "0", 24, ("24",), ["24"]):
            for call in (self.town.sort_of, self.town.loop_of, self.town.place_of):
                with self.assertRaises(NoBox) as caught:
                    call(thing)
                self.assertIs(caught.exception.number, thing)

    def test_wire(self):
        self.assertEqual(self.town.wire(0), LOOPS[0])
        self.assertEqual(self.town.wire(1), LOOPS[1])
        self.assertEqual(self.town.wire(), LOOPS[0] + LOOPS[1])
        self.assertEqual(self.town.wire(None), LOOPS[0] + LOOPS[1])
        self.assertEqual(self.town.wire(loop=1), LOOPS[1])
        for thing in (2, -1, 3, 10 ** 39) + plain.ANY_OBJECTS[1:]:
            with self.assertRaises(NoLoop) as caught:
                self.town.wire(thing)
            self.assertIs(caught.exception.loop, thing)


class ChangingTest(TownCase):
    def setUp(self):
        self.town = Town(LOOPS, rounds=3, hear=2)

    def check_refused(self, error, worth, call):
        with self.assertRaises(error) as caught:
            call()
        told = caught.exception.number if error is NoBox else caught.exception.what
        self.assertIs(told, worth) if error is NoBox else self.assertEqual(told, worth)
        self.assertEqual(self.town, Town(LOOPS, rounds=3, hear=2))

    def test_with_sort(self):
        town = self.town.with_sort("3", "plain")
        self.assertEqual(town, Town(((("24", "plain"), ("3", "plain")), LOOPS[1]), rounds=3, hear=2))
        self.assertEqual(self.town, Town(LOOPS, rounds=3, hear=2))
        self.assertEqual(self.town.with_sort("2111", "shy"), self.town)
        for thing in plain.ANY_OBJECTS + ("loud", 0):
            self.check_refused(BadTown, "sort", lambda: self.town.with_sort("3", thing))
            self.check_refused(NoBox, thing, lambda: self.town.with_sort(thing, "plain"))
            self.check_refused(NoBox, thing, lambda: self.town.with_sort(thing, "loud"))

    def test_with_number(self):
        town = self.town.with_number("24", "5")
        self.assertEqual(town, Town(((("5", "plain"), ("3", "shy")), LOOPS[1]), rounds=3, hear=2))
        self.assertEqual(town.numbers, ("5", "3", "2111"))
        self.assertEqual(self.town, Town(LOOPS, rounds=3, hear=2))
        self.assertEqual(self.town.with_number("24", "24"), self.town)
        for thing in plain.ANY_OBJECTS + ("889", 5):
            self.check_refused(BadTown, "number", lambda: self.town.with_number("24", thing))
            self.check_refused(NoBox, thing, lambda: self.town.with_number(thing, "5"))
            self.check_refused(NoBox, thing, lambda: self.town.with_number(thing, thing))
            self.check_refused(NoBox, thing, lambda: self.town.with_number(thing, "3"))
        self.check_refused(BadTown, "double", lambda: self.town.with_number("24", "3"))
        self.check_refused(BadTown, "double", lambda: self.town.with_number("24", "2111"))

    def test_with_rules(self):
        self.assertEqual(self.town.with_rules(), self.town)
        self.assertIsNot(self.town.with_rules(), self.town)
        self.assertEqual(self.town.with_rules(rounds=5), Town(LOOPS, rounds=5, hear=2))
        self.assertEqual(self.town.with_rules(hear=1), Town(LOOPS, rounds=3, hear=1))
        self.assertEqual(self.town.with_rules(rounds=1, hear=1), Town(LOOPS, rounds=1))
        self.assertEqual(self.town.with_rules(rounds=None, hear=None), self.town)
        self.assertEqual(self.town, Town(LOOPS, rounds=3, hear=2))
        for thing in (0, 9) + plain.ANY_OBJECTS[1:]:
            self.check_refused(BadTown, "rounds", lambda: self.town.with_rules(rounds=thing))
            self.check_refused(BadTown, "rounds", lambda: self.town.with_rules(rounds=thing, hear=thing))
        for thing in (0, 3) + plain.ANY_OBJECTS[1:]:
            self.check_refused(BadTown, "hear", lambda: self.town.with_rules(hear=thing))
        self.check_refused(BadTown, "hear", lambda: self.town.with_rules(rounds=1))
        with self.assertRaises(BadTown) as caught:
            Town(LOOPS, rounds=1).with_rules(hear=2)
        self.assertEqual(caught.exception.what, "hear")


if __name__ == "__main__":
    unittest.main()

"""[3.7]: the errors of the deeds, their order, and deeds as values."""

import unittest

from tests import plain
from wheelchorus.errors import NoBox, NoDeed, NoLoop, NoStretch, NotNow
from wheelchorus.line import Line
from wheelchorus.town import Town

LOOPS = ((("12", "plain"), ("3", "shy")), (("4", "shy"),))
NO_LOOPS = plain.ANY_OBJECTS + (2, 3, -1, 10 ** 39, -10 ** 39, "1")
NO_STRETCHES = plain.ANY_OBJECTS + (3, -1, 10 ** 39, -10 ** 39, "1")
NO_BOXES = plain.ANY_OBJECTS + plain.WHOLE_NUMBERS + ("1", "889", "123", 12, 3, ("12",), ["12"])


class DeedsTest(unittest.TestCase):
    def setUp(self):
        """A line amid rounds, with cuts and a held key, on which nothing refused may leave a trace."""
        self.line = self.made_line()
        self.other = self.made_line()

    def made_line(self):
        line = Line(Town(LOOPS, rounds=2))
        list(line.ticks(9))
        line.pull("3")
        list(line.ticks(3))
        line.cut(0, 1)
        line.tick()
        line.pull("12")
        return line

    def tearDown(self):
        self.assertEqual(plain.line_told(self.line), plain.line_told(self.other))
        for _ in range(120):
            self.assertEqual(self.line.tick(), self.other.tick())
        self.assertEqual(plain.line_told(self.line), plain.line_told(self.other))

    def check(self, error, worths, call, *arguments):
        with self.assertRaises(error) as caught:
            call(*arguments)
        found = list(vars(caught.exception).values())
        self.assertEqual(len(found), len(worths))
        for thing, worth in zip(found, worths):
            self.assertIs(thing, worth)

    def check_deed(self, error, worths, word, *arguments):
        self.check(error, worths, getattr(self.line, word), *arguments)
        self.check(error, worths, self.line.do, (word,) + arguments)

    def test_no_box(self):
        for thing in NO_BOXES:
            self.check_deed(NoBox, [thing], "pull", thing)
            self.check(NoBox, [thing], self.line.box, thing)

    def test_no_loop_comes_ahead_of_no_stretch(self):
        for loop in NO_LOOPS:
            for stretch in (0, 1, 9, None, [], loop):
                self.check_deed(NoLoop, [loop], "cut", loop, stretch)
                self.check_deed(NoLoop, [loop], "mend", loop, stretch)
            self.check(NoLoop, [loop], self.line.near_tape, loop)
            self.check(NoLoop, [loop], self.line.far_tape, loop)

    def test_no_stretch(self):
        for stretch in NO_STRETCHES:
            for loop in (0, 1):
                self.check_deed(NoStretch, [loop, stretch], "cut", loop, stretch)
                self.check_deed(NoStretch, [loop, stretch], "mend", loop, stretch)
        # Stretch 1 of loop 0 is cut, no other one; loop 1 has the stretches 0 and 1 alone.
        self.check_deed(NoStretch, [0, 1], "cut", 0, 1)
        self.check_deed(NoStretch, [0, 0], "mend", 0, 0)
        self.check_deed(NoStretch, [0, 2], "mend", 0, 2)
        self.check_deed(NoStretch, [1, 1], "mend", 1, 1)
        self.check_deed(NoStretch, [1, 2], "cut", 1, 2)

    def test_not_now(self):
        self.check_deed(NotNow, ["part"], "part")
        for line in (self.line, self.other):
            line.join()
        self.check_deed(NotNow, ["join"], "join")

    def test_no_deed(self):
        wrong = plain.ANY_OBJECTS + plain.WHOLE_NUMBERS + (
            "join", ["join"], ["pull", "12"], ("pull",), ("pull", "12", 0), ("cut", 0), ("cut", 0, 0, 0), ("cut",),
            ("mend", 0), ("mend", 0, 1, 2), ("join", 0), ("part", None), ("Join",), ("tick",), ("box", "12"),
            ("do", ("join",)), (("join",),), (["join"],), ({},), (None,), (True,), (0, 1, 2), ("",), ("join\n",),
            ("trial",), ("ticks", 3), ("near_tape", 0), (("pull",), "12"), (["cut"], 0, 0),
        )
        for thing in wrong:
            self.check(NoDeed, [thing], self.line.do, thing)


class DoTest(unittest.TestCase):
    def test_deeds_as_values_return_what_the_methods_return(self):
        line = Line(Town(LOOPS, rounds=2))
        self.assertIs(line.do(("pull", "12")), True)
        self.assertIs(line.do(("pull", "12")), False)
        self.assertIsNone(line.do(("cut", 0, 0)))
        self.assertIsNone(line.do(("cut", 0, 2)))
        self.assertEqual(line.cuts, ((0, 2), ()))
        self.assertIsNone(line.do(("cut", 0, 1)))
        self.assertEqual(line.cuts, ((0, 1, 2), ()))
        self.assertIsNone(line.do(("mend", 0, 0)))
        self.assertEqual(line.cuts, ((1, 2), ()))
        self.assertIsNone(line.do(("join",)))
        self.assertIs(line.is_joined, True)
        self.assertIsNone(line.do(("part",)))
        self.assertIs(line.is_joined, False)
        self.assertIsNone(line.do(("cut", 1, 1)))
        self.assertEqual(line.cuts, ((1, 2), (1,)))

    def test_pull_in_vain_changes_nothing(self):
        line, other = Line(Town(LOOPS, rounds=2)), Line(Town(LOOPS, rounds=2))
        for one in (line, other):
            one.pull("12")
            list(one.ticks(5))
        self.assertIs(line.pull("12"), False)
        self.assertEqual(plain.line_told(line), plain.line_told(other))
        self.assertEqual(list(line.ticks(40)), list(other.ticks(40)))


if __name__ == "__main__":
    unittest.main()

"""[3.10], [3.11]: trials, tried and play."""

import random
import unittest

from tests import plain
from wheelchorus.errors import BadTimed, NoBox, NoDeed, NoLoop, NoStretch, NotNow
from wheelchorus.line import Line, Trial, play, tried
from wheelchorus.town import Town


def two_lines(chance):
    """Two lines on which the same was done, and the model that tells which deeds are possible."""
    town = Town(plain.some_loops(chance, most_boxes=4), rounds=chance.randint(1, 8))
    line, other, model = Line(town), Line(town), plain.PlainLine(town)
    work(chance, model, (line, other), chance.randint(0, 80))
    return line, other, model


def work(chance, model, lines, ticks):
    for _ in range(ticks):
        while chance.random() < 0.1:
            deed = plain.some_deed(chance, model)
            for line in (model,) + tuple(lines):
                line.do(deed)
        for line in (model,) + tuple(lines):
            line.tick()


class TrialCase(unittest.TestCase):
    def check_alike(self, line, other):
        """Both tell the same, now and later."""
        self.assertEqual(plain.line_told(line), plain.line_told(other))
        # First without a deed, which would hold the key anew.
        for _ in range(60):
            self.assertEqual(line.tick(), other.tick())
            self.assertEqual(line.last_signs, other.last_signs)
        for one in (line, other):
            one.pull(one.town.numbers[0])
            one.part() if one.is_joined else one.join()
        for _ in range(90):
            self.assertEqual(line.tick(), other.tick())
        self.assertEqual(plain.line_told(line), plain.line_told(other))


class TrialTest(TrialCase):
    def test_behind_the_block_all_is_as_before(self):
        chance = random.Random(27)
        for _ in range(60):
            line, other, model = two_lines(chance)
            with line.trial() as held:
                self.assertIs(held, line)
                self.assertEqual(plain.line_told(line), plain.line_told(other))
                work(chance, model, (line,), chance.randint(0, 60))
                self.assertEqual(plain.line_told(line), model.told())
            self.check_alike(line, other)

    def test_a_block_that_ends_by_an_error(self):
        chance = random.Random(28)
        for error in (NoBox("x"), KeyError("x"), ValueError("x"), StopIteration(), KeyboardInterrupt()):
            line, other, model = two_lines(chance)
            with self.assertRaises(type(error)) as caught:
                with line.trial():
                    work(chance, model, (line,), 20)
                    raise error
            self.assertIs(caught.exception, error)
            self.check_alike(line, other)

    def test_trials_within_trials(self):
        chance = random.Random(29)
        for _ in range(20):
            line, other, model = two_lines(chance)
            with line.trial() as held:
                work(chance, model, (line,), 10)
                told = plain.line_told(line)
                with self.assertRaises(NotNow):
                    with held.trial():
                        work(chance, model, (line,), 10)
                        line.part() if not line.is_joined else line.join()
                self.assertEqual(plain.line_told(line), told)
                with held.trial():
                    line.tick()
                self.assertEqual(plain.line_told(line), told)
            self.check_alike(line, other)

    def test_one_trial_used_twice_and_within_itself(self):
        line, other, model = two_lines(random.Random(30))
        trial = line.trial()
        self.assertIs(type(trial), Trial)
        line.tick()
        other.tick()
        for _ in range(2):
            with trial:
                line.tick()
                told = plain.line_told(line)
                with trial:
                    list(line.ticks(9))
                self.assertEqual(plain.line_told(line), told)
            self.assertEqual(plain.line_told(line), plain.line_told(other))
        with Trial(line) as held:
            held.tick()
        self.check_alike(line, other)

    def test_a_trial_that_was_only_made_does_nothing(self):
        line, other, _ = two_lines(random.Random(31))
        line.trial()
        line.tick()
        other.tick()
        self.check_alike(line, other)

    def test_ticks_go_on_within_and_behind_a_trial(self):
        line, other, _ = two_lines(random.Random(32))
        ticks, more = line.ticks(9), other.ticks(6)
        for _ in range(3):
            self.assertEqual(next(ticks), next(more))
        with line.trial():
            for _ in range(3):
                next(ticks)
        self.assertEqual(list(ticks), list(more))
        self.check_alike(line, other)

    def test_return_from_a_block(self):
        line, other, _ = two_lines(random.Random(33))

        def clock_later():
            with line.trial() as held:
                list(held.ticks(7))
                return held.clock
        self.assertEqual(clock_later(), other.clock + 7)
        self.check_alike(line, other)


class TriedTest(TrialCase):
    def test_what_it_returns(self):
        chance = random.Random(34)
        for _ in range(40):
            line, other, model = two_lines(chance)
            deeds = []
            for _ in range(chance.randint(0, 5)):
                deeds.append(plain.some_deed(chance, model))
                model.do(deeds[-1])
            ticks = chance.choice((0, 1, 30))
            for _ in range(ticks):
                model.tick()
            kept = list(deeds)
            self.assertEqual(tried(line, deeds, ticks), model.told()[4])
            self.assertEqual(deeds, kept)
            self.assertEqual(tried(line, tuple(deeds), ticks), model.told()[4])
            self.check_alike(line, other)

    def test_errors_leave_the_line_as_it_was(self):
        for deeds, error, worths in (
            ([("pull", "1"), ("pull", "9")], NoBox, ["9"]),
            ([("join",), ("cut", 3, 0)], NoLoop, [3]),
            ([("cut", 0, 1), ("cut", 0, 1)], NoStretch, [0, 1]),
            ([("join",), ("join",)], NotNow, ["join"]),
            ([("join",), ["part"]], NoDeed, [["part"]]),
            ([None, ("pull", "9")], NoDeed, [None]),
        ):
            town = Town([[("1", "plain")], [("2", "shy")]], rounds=2)
            line, other = Line(town), Line(town)
            with self.assertRaises(error) as caught:
                tried(line, deeds, 10)
            self.assertEqual(list(vars(caught.exception).values()), worths)
            self.check_alike(line, other)


class PlayTest(unittest.TestCase):
    TOWN = Town([[("1", "plain"), ("2", "shy")], [("3", "plain")]], rounds=2)

    def test_beside_a_line_played_by_hand(self):
        chance = random.Random(35)
        for _ in range(60):
            town = Town(plain.some_loops(chance, most_boxes=4), rounds=chance.randint(1, 4))
            model = plain.PlainLine(town)
            timed = []
            ticks = chance.choice((0, 1, 50, 120))
            for tick in range(ticks + 1):
                while chance.random() < 0.1:
                    timed.append((tick, plain.some_deed(chance, model)))
                    model.do(timed[-1][1])
                if tick < ticks:
                    model.tick()
            kept = list(timed)
            line = play(town, timed, ticks)
            self.assertIs(type(line), Line)
            self.assertEqual(plain.line_told(line), model.told())
            self.assertEqual(timed, kept)
            again = play(town, tuple(timed), ticks)
            for _ in range(60):
                self.assertEqual(line.tick(), model.tick())
            self.assertEqual(plain.line_told(line), model.told())
            self.assertNotEqual(again.clock, line.clock)

    def test_deeds_at_the_last_tick(self):
        line = play(self.TOWN, [(0, ("pull", "1")), (5, ("cut", 0, 1)), (5, ("pull", "1"))], 5)
        self.assertEqual((line.clock, line.cuts), (5, ((1,), ())))
        # The round of five ticks so far is not sent yet, so the last pull did nothing.
        self.assertEqual(line.box("1"), (2, 0, 5, 0))
        self.assertEqual(line.near_tape(0), (1, 0, 0, 0, 0))
        line.tick()
        self.assertEqual(line.near_tape(0), (1, 0, 0, 0, 0, 2))

    def test_nothing_timed(self):
        self.assertEqual(plain.line_told(play(self.TOWN, [], 0)), plain.line_told(Line(self.TOWN)))
        self.assertEqual(play(self.TOWN, (), 7).clock, 7)

    def test_deeds_of_one_tick_in_the_order_given(self):
        line = play(self.TOWN, [(2, ("join",)), (2, ("part",)), (2, ("join",))], 2)
        self.assertIs(line.is_joined, True)
        with self.assertRaises(NotNow) as caught:
            play(self.TOWN, [(2, ("join",)), (2, ("join",)), (2, ("part",))], 2)
        self.assertEqual(caught.exception.word, "join")

    def check_bad(self, index, timed, ticks):
        for row in (timed, tuple(timed)):
            with self.assertRaises(BadTimed) as caught:
                play(self.TOWN, row, ticks)
            self.assertEqual(caught.exception.index, index)

    def test_bad_entries(self):
        good = (3, ("pull", "1"))
        for thing in plain.ANY_OBJECTS + plain.WHOLE_NUMBERS + (
            [3, ("pull", "1")], (3,), (3, ("pull", "1"), 0), (3, "pull", "1"), "3p",
        ):
            if isinstance(thing, tuple) and len(thing) == 2 and thing == (1, 2):
                continue
            self.check_bad(0, [thing], 5)
            self.check_bad(1, [good, thing, None], 5)
        for tick in plain.ANY_OBJECTS + (-1, 6, 10 ** 39, -10 ** 39, "3"):
            self.check_bad(0, [(tick, ("pull", "1"))], 5)
            self.check_bad(1, [good, (tick, ("pull", "1"))], 5)
        self.check_bad(1, [good, (2, ("pull", "1"))], 5)
        self.check_bad(2, [good, good, (2, ("pull", "1")), (1, ("pull", "1"))], 5)
        self.check_bad(0, [(1, ("pull", "1"))], 0)

    def test_entries_are_checked_ahead_of_all_deeds(self):
        self.check_bad(2, [(0, ("pull", "9")), (1, None), (0, ("join",))], 5)
        self.check_bad(1, [(0, None), (True, ("join",))], 5)
        for deed, error, worths in (
            (("pull", "9"), NoBox, ["9"]), (None, NoDeed, [None]), (("part",), NotNow, ["part"]),
            (("mend", 0, 0), NoStretch, [0, 0]), (("cut", True, 0), NoLoop, [True]),
        ):
            with self.assertRaises(error) as caught:
                play(self.TOWN, [(1, ("pull", "1")), (2, deed)], 5)
            self.assertEqual(list(vars(caught.exception).values()), worths)


if __name__ == "__main__":
    unittest.main()

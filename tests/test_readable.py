"""[5.7], [5.8], [5.9], [5.11] and the heading readable.py."""

import itertools
import random
import unittest

from tests import plain
from tests.papers import (
    APART_WIRES, GOOD_HEARING, WRONG_HEARING, Full, plain_false_reading, some_boxes, told_tree,
)
from tests.test_covers import JUST_2001
from wheelchorus.coverjudge import reading_fault, safe_fault
from wheelchorus.errors import BadQuestion, TooManyCases
from wheelchorus.line import Line
from wheelchorus.readable import Reading, Safe, false_reading, least_box_sets
from wheelchorus.town import Town
from wheelchorus.trees import Tree

SHORT = [number for number in plain.ALL_NUMBERS if len(plain.row(number)) <= 14]
FACTS = (("1", "pull", 0, 1), ("2", "pull", 4, 1))


class ResultsTest(unittest.TestCase):
    def test_reading(self):
        first, second = [FACTS[0]], [FACTS[1]]
        reading = Reading("12", 2, "apart", "quiet", first, second)
        first.append(None)
        second.append(None)
        told = (reading.number, reading.rounds, reading.form, reading.case, reading.first, reading.second)
        self.assertEqual(told, ("12", 2, "apart", "quiet", FACTS[:1], FACTS[1:]))
        self.assertIs(reading.is_safe, False)
        self.assertIs(type(reading.first), tuple)
        self.assertIs(type(reading.second), tuple)
        self.assertEqual(Reading("12", 1, "once", "quiet", FACTS).second, ())

    def test_safe(self):
        papers = [(1, "quiet", False, Tree(0))]
        safe = Safe("12", papers)
        papers.append(None)
        self.assertEqual((safe.number, safe.papers), ("12", ((1, "quiet", False, Tree(0)),)))
        self.assertIs(type(safe.papers), tuple)
        self.assertIs(safe.is_safe, True)


class FalseReadingTest(unittest.TestCase):
    def check(self, boxes, number, **more):
        """Compares with the plain reckoning; returns the answer, or None if there were too many cases."""
        try:
            expected = plain_false_reading(boxes, number, **more)
        except Full:
            with self.assertRaises(TooManyCases) as caught:
                false_reading(boxes, number, **more)
            self.assertEqual(caught.exception.number, number)
            return None
        found = false_reading(boxes, number, **more)
        self.assertEqual(found.number, number)
        judged = {name: more[name] for name in more if name != "rounds"}
        if isinstance(expected, tuple):
            self.assertIs(type(found), Reading)
            self.assertEqual((found.form, found.case, found.first, found.second), expected)
            self.assertEqual(found.rounds, more["rounds"])
            self.assertIsNone(reading_fault(boxes, found, **judged))
        else:
            self.assertIs(type(found), Safe)
            self.assertEqual([paper[:3] + (told_tree(paper[3]),) for paper in found.papers], expected)
            self.assertIsNone(safe_fault(boxes, number, found, **more))
        return found

    def test_beside_plain_reckoning(self):
        chance = random.Random(571)
        told = set()
        for _ in range(500):
            number = chance.choice(SHORT)
            boxes = tuple(box for box in some_boxes(chance, chance.randint(0, 6), SHORT) if box[0] != number)
            rounds = chance.choice((1, 2, 3, 8))
            more = {"rounds": rounds, "hear": chance.choice((1, 2)) if rounds > 1 else 1,
                    "key": chance.random() < 0.5}
            found = self.check(boxes, number, **more)
            if found is not None:
                told.add((found.form, found.case) if not found.is_safe else (more["hear"], len(found.papers)))
        for word in [("once", case) for case in ("quiet", "train", "key")] + [("doubled", "quiet")]:
            self.assertIn(word, told)
        # The papers of a Safe: with hear 1, or with hear 2 and clean trees.
        for word in ((1, 1), (1, 2), (1, 3), (2, 4), (2, 6)):
            self.assertIn(word, told)

    def test_apart(self):
        for number, boxes, rounds, key in APART_WIRES:
            found = self.check(boxes, number, rounds=rounds, hear=2, key=key)
            self.assertEqual(found.form, "apart")
            self.assertEqual(self.check(boxes, number, rounds=rounds, key=key).form, "once")
        self.assertEqual({false_reading(boxes, number, rounds=rounds, hear=2, key=key).case
                          for number, boxes, rounds, key in APART_WIRES}, {"quiet", "train", "key"})

    def test_doubled(self):
        forms = set()
        for boxes in ((("1", "plain"), ("2", "plain")), (("1", "plain"), ("2", "plain"), ("11", "plain"))):
            for key in (False, True):
                for number in ("3", "4", "111", "12", "22"):
                    for rounds in (2, 3):
                        if number not in ("1", "2", "11"):
                            found = self.check(boxes, number, rounds=rounds, hear=2, key=key)
                            forms.add("safe" if found.is_safe else (found.form, found.case))
        self.assertTrue({("doubled", "train"), ("doubled", "key"), "safe"} <= forms, forms)

    def test_safe_with_hear_2_though_a_clean_piece_can_be_made(self):
        """Then the last paper is the one that no piece stands behind a quiet wire."""
        chance = random.Random(572)
        found = 0
        while found < 3:
            number = chance.choice(SHORT)
            boxes = tuple(box for box in some_boxes(chance, 2, SHORT[:20]) if box[0] != number)
            answer = self.check(boxes, number, rounds=3, hear=2, key=True)
            if answer is not None and answer.is_safe and len(answer.papers) == 4:
                self.assertEqual([paper[:3] for paper in answer.papers[-2:]], [(2, "key", False), (1, "quiet", False)])
                found += 1

    def test_edges_of_boxes_and_rounds(self):
        for rounds, hear in ((1, 1), (8, 1), (2, 2), (8, 2)):
            for key in (False, True):
                self.assertEqual(self.check((), "24", rounds=rounds, hear=hear, key=key).papers[0][3], Tree(0))
                self.check([["2", "shy"]], "24", rounds=rounds, hear=hear, key=key)
        boxes = tuple((number, "shy") for number in plain.some_numbers(573, 31) if number != "24")[:30]
        self.check(boxes, "24", rounds=8, hear=2, key=True)
        self.check(list(boxes), "9951", rounds=1)

    def test_defaults(self):
        boxes = (("1", "plain"), ("2", "plain"))
        self.assertEqual(len(false_reading(boxes[:1], "12", rounds=3).papers), 2)
        self.assertEqual(false_reading(boxes, "12", rounds=1).form, "once")

    def test_too_many_cases(self):
        number, boxes, more = JUST_2001
        with self.assertRaises(TooManyCases) as caught:
            false_reading(boxes, number, rounds=more["rounds"], hear=2, key=True)
        self.assertEqual(caught.exception.number, number)

    def test_what_was_passed_stays(self):
        boxes = [["1", "plain"], ["2", "plain"]]
        false_reading(boxes, "12", rounds=2, hear=2, key=True)
        least_box_sets(boxes, "12", rounds=2, hear=2, key=True)
        self.assertEqual(boxes, [["1", "plain"], ["2", "plain"]])


class StatementTest(unittest.TestCase):
    def test_safe_numbers_are_never_heard(self):
        """[5.9]: on lines with pulls of other boxes, and deeds on the wires if the key is allowed."""
        chance = random.Random(591)
        heard_others = 0
        for key in (False, True) * 6:
            town = Town(self.loops(chance), rounds=chance.randint(1, 3), hear=1)
            hearing = chance.randint(1, min(2, town.rounds))
            safe = {}
            for number in SHORT:
                # With the key the loops can be joined, so that all boxes come onto one wire.
                wires = [town.wire()] if key else [town.wire(loop) for loop in range(len(town.loops))]
                answers = [self.is_safe(wire, number, town.rounds, hearing, key) for wire in wires]
                safe[number] = answers if not key else answers * len(town.loops)
            for _ in range(4):
                own = chance.choice(town.numbers)
                line, model = Line(town), plain.PlainLine(town)
                pulled = self.play(chance, line, model, own, key)
                for loop, tapes in enumerate(line.tapes):
                    for tape in tapes:
                        for _, number in plain.heard(tape, hearing):
                            if number not in pulled and number in safe:
                                self.assertFalse(safe[number][loop], (town.loops, number))
                                heard_others += 1
        self.assertGreater(heard_others, 0)

    def loops(self, chance):
        numbers = chance.sample(SHORT[:30], 6)
        sorts = [chance.choice(("plain", "plain", "shy")) for _ in numbers]
        boxes = list(zip(numbers, sorts))
        at = chance.randint(1, 5)
        return [boxes[:at], boxes[at:]]

    def is_safe(self, wire, number, rounds, hear, key):
        others = [box for box in wire if box[0] != number]
        try:
            return false_reading(others, number, rounds=rounds, hear=hear, key=key).is_safe
        except TooManyCases:
            return False

    def play(self, chance, line, model, own, key):
        """A row of deeds without a pull of this number; returns the numbers that were pulled."""
        pulled = set()
        for _ in range(400):
            if chance.random() < 0.12:
                deed = plain.some_deed(chance, model)
                if deed != ("pull", own) and (key or deed[0] == "pull"):
                    model.do(deed)
                    line.do(deed)
                    pulled |= {deed[1]} if deed[0] == "pull" else set()
            line.tick()
        return pulled


class LeastBoxSetsTest(unittest.TestCase):
    def expected(self, boxes, number, **more):
        found = []
        for size in range(len(boxes) + 1):
            for indexes in itertools.combinations(range(len(boxes)), size):
                answer = plain_false_reading([boxes[index] for index in indexes], number, **more)
                if isinstance(answer, tuple) and not any(set(other) < set(indexes) for other in found):
                    found.append(indexes)
        return tuple(tuple(boxes[index][0] for index in indexes) for indexes in found)

    def test_beside_all_sets(self):
        chance = random.Random(5111)
        counts = set()
        for _ in range(60):
            number = chance.choice(SHORT)
            boxes = [box for box in some_boxes(chance, chance.randint(0, 5), SHORT[:25]) if box[0] != number]
            rounds = chance.choice((1, 2, 3))
            more = {"rounds": rounds, "hear": chance.randint(1, min(2, rounds)), "key": chance.random() < 0.5}
            try:
                expected = self.expected(boxes, number, **more)
            except Full:
                continue
            found = least_box_sets(boxes, number, **more)
            self.assertEqual(found, expected)
            self.assertIs(type(found), tuple)
            counts |= {(len(found), len(one)) for one in found}
        self.assertGreater(len(counts), 4)

    def test_known_sets(self):
        boxes = (("2", "plain"), ("1", "plain"), ("11", "shy"), ("21", "plain"))
        self.assertEqual(least_box_sets(boxes, "12", rounds=1), (("2", "1"), ("2", "11"), ("1", "11")))
        self.assertEqual(least_box_sets(boxes[::-1], "12", rounds=1), (("11", "1"), ("11", "2"), ("1", "2")))
        self.assertEqual(least_box_sets((), "12", rounds=1), ())
        self.assertEqual(least_box_sets((("2", "plain"), ("21", "plain")), "12", rounds=1), ())

    def test_six_and_seven_boxes(self):
        boxes = [(number, "plain") for number in ("1", "2", "3", "11", "21", "4", "5")]
        for number in ("12", "22"):
            expected = self.expected(boxes[:6], number, rounds=1)
            self.assertGreater(len(expected), 0)
            self.assertEqual(least_box_sets(boxes[:6], number, rounds=1), expected)
        self.assertEqual(len(least_box_sets(boxes[:6], "888", rounds=1)), 20)
        with self.assertRaises(BadQuestion) as caught:
            least_box_sets(boxes, "12", rounds=1)
        self.assertEqual(caught.exception.what, "boxes")

    def test_no_set_that_holds_a_found_one_is_asked(self):
        number, rounds = "7274", 3
        boxes = (("31", "plain"), ("2", "plain"), ("121", "plain"), ("5", "plain"))
        with self.assertRaises(TooManyCases):
            false_reading(boxes, number, rounds=rounds, key=True)
        self.assertEqual(least_box_sets(boxes, number, rounds=rounds, key=True), (("31", "2", "121"),))

    def test_too_many_cases(self):
        number, boxes, more = JUST_2001
        with self.assertRaises(TooManyCases) as caught:
            least_box_sets(boxes, number, rounds=more["rounds"], hear=2, key=True)
        self.assertEqual(caught.exception.number, number)


class BadQuestionTest(unittest.TestCase):
    def check(self, what, values):
        number, boxes = values["number"], values["boxes"]
        more = {name: values[name] for name in ("rounds", "hear", "key")}
        for call in (false_reading, least_box_sets):
            with self.assertRaises(BadQuestion) as caught:
                call(boxes, number, **more)
            self.assertEqual(caught.exception.what, what)

    def test_each_and_the_first_of_two(self):
        chance = random.Random(594)
        names = list(GOOD_HEARING)
        for at, one in enumerate(names):
            for thing in WRONG_HEARING[one]:
                self.check(one, {**GOOD_HEARING, one: thing})
                for other in names[at + 1:]:
                    self.check(one, {**GOOD_HEARING, one: thing, other: chance.choice(WRONG_HEARING[other])})

    def test_hear_2_needs_rounds_2(self):
        self.check("hear", {**GOOD_HEARING, "rounds": 1})

    def test_too_many_boxes_for_sets_come_last(self):
        boxes = tuple((number, "plain") for number in ("1", "2", "3", "4", "5", "6", "7"))
        for what, thing in (("number", "0"), ("rounds", 0), ("hear", 3), ("key", 1)):
            self.check(what, {**GOOD_HEARING, "boxes": boxes, what: thing})


if __name__ == "__main__":
    unittest.main()

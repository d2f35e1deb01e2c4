"""[5.1], [5.2] and the heading question.py."""

import random
import unittest

from tests import plain
from tests.papers import CASES, PlainQuestion, some_arguments, some_boxes
from wheelchorus.errors import BadQuestion
from wheelchorus.lays import Lay, lay_of
from wheelchorus.question import Question
from wheelchorus.rows import Strokes, pattern

BOXES = (("1", "plain"), ("12", "shy"), ("2", "plain"), ("4", "shy"))


class AttributesTest(unittest.TestCase):
    def test_attributes(self):
        boxes = [["3", "plain"], ("2", "shy")]
        question = Question("24", boxes, rounds=3, case="key", times=2, clean=True)
        boxes[0][0] = "5"
        boxes.append(("7", "plain"))
        told = (question.number, question.boxes, question.rounds, question.case, question.times, question.clean_only)
        self.assertEqual(told, ("24", (("3", "plain"), ("2", "shy")), 3, "key", 2, True))
        self.assertIs(question.clean_only, True)
        self.assertEqual(question.pattern, pattern("24", 2))
        self.assertIs(type(question.pattern), Strokes)
        self.assertEqual(question.span, 36)
        self.assertIs(type(question.lays), tuple)
        self.assertIs(type(question.lay_facts), tuple)

    def test_defaults(self):
        question = Question("24", (), rounds=1, case="quiet")
        self.assertEqual((question.times, question.clean_only, question.span), (1, False, 18))
        self.assertEqual(question.pattern, pattern("24"))
        self.assertEqual((question.boxes, question.lays, question.lay_facts, len(question)), ((), (), (), 0))
        self.assertEqual(list(question), [])

    def test_known_lays(self):
        self.assertEqual(Question("3", BOXES, rounds=2, case="quiet").lay_facts, (
            ("1", "pull", 4, 2), ("12", "head", 0, 1), ("2", "pull", 2, 2),
        ))
        self.assertEqual(Question("3", BOXES, rounds=2, case="train").lay_facts, (
            ("1", "train", 0, 1), ("1", "pull", 4, 2), ("2", "train", 0, 1), ("2", "pull", 2, 2),
        ))
        self.assertEqual(Question("3", BOXES, rounds=2, case="key").lay_facts, (
            ("1", "train", 0, 1), ("1", "tail", -2, 2), ("1", "tail", -4, 2), ("1", "pull", 4, 2),
            ("2", "train", 0, 1), ("2", "tail", -2, 1), ("2", "tail", -6, 2), ("2", "pull", 2, 2),
        ))


class LaysTest(unittest.TestCase):
    def check(self, number, boxes, **more):
        question = Question(number, boxes, **more)
        model = PlainQuestion(number, boxes, **more)
        self.assertEqual(question.lay_facts, tuple(model.lays))
        self.assertEqual([lay.facts() for lay in question.lays], list(model.lays))
        for lay in question.lays:
            strokes, at, end = model.lays[lay.facts()]
            self.assertEqual((list(lay.strokes), lay.at, lay.end), (sorted(strokes), at, end))
            self.assertIs(type(lay), Lay)
        self.assertEqual(len(question), len(model.lays))
        self.assertEqual(list(question), list(model.lays))
        return question, model

    def test_beside_plain_reckoning(self):
        chance = random.Random(511)
        kinds = set()
        for _ in range(150):
            number, boxes, more = some_arguments(chance)
            question, _ = self.check(number, boxes, **more)
            kinds |= {(facts[1], more["case"], more["clean"]) for facts in question}
        expected = {("head", "quiet"), ("pull", "quiet"), ("train", "train"), ("pull", "train"), ("train", "key"),
                    ("tail", "key"), ("pull", "key")}
        self.assertEqual(kinds, {(kind, case, clean) for kind, case in expected for clean in (True, False)})

    def test_doubles_are_left_out(self):
        # The third round of a tail at -4 begins at 8, and so gives nothing to a span of 8 ticks.
        question, _ = self.check("2", (("1", "plain"),), rounds=8, case="key")
        self.assertEqual(question.lay_facts, (
            ("1", "train", 0, 1), ("1", "tail", -4, 2), ("1", "pull", 2, 8),
        ))
        # Lays of another kind, or of another place, are no doubles though they give the same strokes.
        self.assertEqual({question.lay(facts).strokes.offsets for facts in question.lay_facts[1:]}, {(2,)})
        question, _ = self.check("3", (("11", "plain"),), rounds=2, case="train")
        self.assertEqual(question.lay_facts, (("11", "train", 0, 1), ("11", "pull", 0, 2)))
        self.assertEqual({lay.strokes.offsets for lay in question.lays}, {(0, 4)})

    def test_clean_and_not(self):
        boxes = (("1", "plain"), ("4", "shy"), ("2", "plain"))
        question, _ = self.check("3", boxes, rounds=1, case="quiet", clean=False)
        self.assertEqual(question.lay_facts, (
            ("1", "pull", 0, 1), ("1", "pull", 2, 1), ("1", "pull", 4, 1), ("2", "pull", 0, 1), ("2", "pull", 2, 1),
        ))
        # A pull of 1 at 4 ends at 10, the very end of the span; with two rounds it does not.
        clean, _ = self.check("3", boxes, rounds=1, case="quiet", clean=True)
        self.assertIn(("1", "pull", 4, 1), clean)
        clean, _ = self.check("3", boxes, rounds=2, case="quiet", clean=True)
        self.assertNotIn(("1", "pull", 4, 2), clean)
        self.assertIn(("1", "pull", 4, 2), Question("3", boxes, rounds=2, case="quiet"))

    def test_edges_of_rounds_boxes_and_times(self):
        chance = random.Random(512)
        for many in (0, 1, 30):
            for rounds in (1, 8):
                for case in CASES:
                    for times in (1, 2):
                        number = chance.choice(("24", "9951", "6666", "1"))
                        pool = [name for name in plain.some_numbers(many, 40) + ["2", "3", "11"] if name != number]
                        self.check(number, some_boxes(chance, many, pool), rounds=rounds, case=case, times=times)

    def test_shy_boxes_give_nothing_behind_a_train_or_a_key(self):
        for case in ("train", "key"):
            self.assertEqual(Question("3", (("12", "shy"), ("4", "shy")), rounds=8, case=case).lays, ())


class FactsTest(unittest.TestCase):
    def test_lay_of_facts(self):
        chance = random.Random(513)
        for _ in range(40):
            number, boxes, more = some_arguments(chance)
            question = Question(number, boxes, **more)
            for lay in question.lays:
                facts = lay.facts()
                self.assertIs(facts in question, True)
                self.assertEqual(question.lay(tuple(list(facts))), lay)
                self.assertEqual(
                    lay_of(facts, question.pattern, question.span, question.boxes, more["rounds"], more["case"]), lay
                )

    def test_nobodys_facts(self):
        question = Question("3", BOXES, rounds=2, case="train")
        facts = ("1", "train", 0, 1)
        self.assertIn(facts, question)
        wrong = plain.ANY_OBJECTS + plain.WHOLE_NUMBERS + (
            list(facts), ("1", "train", False, 1), ("1", "train", 0, True), ("1", "train", False, True), facts[:3],
            facts + (1,), ("1", "train", 0, 2), ("12", "train", 0, 1), ("1", "head", 0, 1), ("3", "train", 0, 1),
            (("1",), "train", 0, 1), ("1", ["train"], 0, 1), ("1", "train", [0], 1), ("1", "train", 0, {}),
            facts[::-1], (facts,), "1train01", (None, "train", 0, 1), ("1", "train", 0, None), ("1", "train", "0", 1),
        )
        for thing in wrong:
            self.assertIs(thing in question, False, thing)
            self.assertIsNone(question.lay(thing), thing)

    def test_a_double_has_no_facts(self):
        question = Question("2", (("1", "plain"),), rounds=8, case="key")
        self.assertNotIn(("1", "train", 0, 2), question)
        self.assertIsNone(question.lay(("1", "tail", -2, 3)))
        clean = Question("3", (("1", "plain"),), rounds=2, case="quiet", clean=True)
        self.assertIsNone(clean.lay(("1", "pull", 4, 2)))


class ChoicesTest(unittest.TestCase):
    def test_known_choices(self):
        question = Question("24", (("3", "plain"), ("2", "plain"), ("1", "shy")), rounds=1, case="quiet")
        self.assertEqual(question.choices(0, ()), (("2", "pull", 0, 1), ("1", "head", 0, 1)))
        self.assertEqual(question.choices(2, []), (("2", "pull", 0, 1),))
        self.assertEqual(question.choices(12, ()), (
            ("3", "pull", 8, 1), ("2", "pull", 10, 1),
        ))
        self.assertEqual(question.choices(10, [("3", "pull", 6, 1)]), (("2", "pull", 8, 1), ("2", "pull", 10, 1)))
        # The row of 2 is eight ticks long: a pull at 0 leaves the box free from 8 on.
        self.assertEqual(question.choices(8, (("2", "pull", 0, 1), ("3", "pull", 6, 1))), (("2", "pull", 8, 1),))
        self.assertEqual(question.choices(4, ()), ())
        self.assertIs(type(question.choices(4, ())), tuple)

    def test_beside_plain_reckoning(self):
        chance = random.Random(514)
        for _ in range(60):
            number, boxes, more = some_arguments(chance)
            question = Question(number, boxes, **more)
            model = PlainQuestion(number, boxes, **more)
            for stroke in chance.sample(range(-1, question.span + 1), 4) + chance.choices(model.strokes, k=4):
                chosen = chance.choices(list(question), k=chance.randint(0, 4)) if len(question) else []
                for facts in (chosen, tuple(chosen)):
                    self.assertEqual(question.choices(stroke, facts), model.choices(stroke, chosen))


class BadQuestionTest(unittest.TestCase):
    GOOD = {"number": "24", "boxes": BOXES, "rounds": 2, "case": "key", "times": 2, "clean": True}

    def wrong_values(self):
        many = tuple((number, "plain") for number in plain.some_numbers(515, 40) if number != "24")
        anything = plain.ANY_OBJECTS
        return {
            "number": anything + plain.WHOLE_NUMBERS + ("889", "12345", "10", ("24",)),
            "boxes": tuple(thing for thing in anything if thing not in ((), [])) + plain.WHOLE_NUMBERS + (
                many[:31], (("24", "plain"),), (("1", "plain"), ("1", "shy")), (("1", "plain", 1),), (("1",),),
                (("1", "Plain"),), (("0", "plain"),), ((1, "plain"),), [["1", ["plain"]]], [[["1"], "plain"]],
                (("plain", "1"),), {"1": "plain"}, ("1p",), (("1", None),), (BOXES,), [[[["1", "plain"]]]],
            ),
            "rounds": anything + (0, 9, -1, 10 ** 39, "2"),
            "case": anything + plain.WHOLE_NUMBERS + ("Quiet", "short", "key "),
            "times": anything + (0, 3, -1, 10 ** 39, "1"),
            "clean": tuple(thing for thing in anything if not isinstance(thing, bool)) + plain.WHOLE_NUMBERS,
        }

    def check(self, what, **values):
        with self.assertRaises(BadQuestion) as caught:
            Question(values["number"], values["boxes"], **{
                name: values[name] for name in ("rounds", "case", "times", "clean")
            })
        self.assertEqual(caught.exception.what, what)

    def test_each_wrong_argument(self):
        for what, things in self.wrong_values().items():
            for thing in things:
                self.check(what, **{**self.GOOD, what: thing})

    def test_the_first_of_two(self):
        chance = random.Random(516)
        names = list(self.GOOD)
        wrong = self.wrong_values()
        for at, one in enumerate(names):
            for other in names[at + 1:]:
                for _ in range(5):
                    values = {one: chance.choice(wrong[one]), other: chance.choice(wrong[other])}
                    self.check(one, **{**self.GOOD, **values})

    def test_good_edges(self):
        many = tuple((number, "plain") for number in plain.some_numbers(517, 40) if number != "24")[:30]
        for boxes in ((), [], many, list(many), [list(box) for box in many]):
            for rounds in (1, 8):
                self.assertEqual(len(Question("24", boxes, rounds=rounds, case="key").boxes), len(boxes))


if __name__ == "__main__":
    unittest.main()

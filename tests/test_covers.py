"""[5.3], [5.5], [5.6] and the heading covers.py."""

import random
import types
import unittest

from tests import plain
from tests.papers import Full, PlainQuestion, some_arguments, told_tree
from wheelchorus.covers import Cover, least_cover, least_covers, search
from wheelchorus.errors import TooManyCases, TooManyLays
from wheelchorus.question import Question
from wheelchorus.trees import Tree

ONE = ("1", "pull", 0, 1)
TWO = ("2", "pull", 4, 1)
# Searched just 2,000 and just 2,001 nodes, all of them for a tree.
JUST_2000 = ("2372", [(number, "plain") for number in ("212", "1112", "11", "114", "123")],
             {"rounds": 4, "case": "key", "times": 2})
JUST_2001 = ("1975", [(number, "plain") for number in ("212", "51", "8", "1121")],
             {"rounds": 4, "case": "key", "times": 2})


def both(number, boxes, more):
    return Question(number, boxes, **more), PlainQuestion(number, boxes, **more)


class CoverTest(unittest.TestCase):
    def test_cover(self):
        facts = [TWO, ONE]
        cover = Cover(facts)
        facts.append(ONE)
        self.assertEqual(cover.lay_facts, (TWO, ONE))
        self.assertIs(type(cover.lay_facts), tuple)
        self.assertEqual((list(cover), len(cover)), ([TWO, ONE], 2))
        self.assertEqual((Cover(()).lay_facts, len(Cover([]))), ((), 0))

    def test_equality(self):
        self.assertTrue(Cover([ONE, TWO]) == Cover((ONE, TWO)))
        for other in (Cover((TWO, ONE)), Cover((ONE,)), Cover((ONE, TWO, TWO)), (ONE, TWO), [ONE, TWO], None, Tree(0)):
            self.assertFalse(Cover((ONE, TWO)) == other)
            self.assertTrue(Cover((ONE, TWO)) != other)


class SearchTest(unittest.TestCase):
    def check(self, question, model):
        """Searches both; returns the answer, or None if there were too many cases."""
        try:
            expected, _ = model.search(2000)
        except Full:
            with self.assertRaises(TooManyCases) as caught:
                search(question)
            self.assertEqual(caught.exception.number, question.number)
            return None
        found = search(question)
        if isinstance(expected, list):
            self.assertIs(type(found), Cover)
            self.assertEqual(found.lay_facts, tuple(expected))
            self.assertTrue(model.is_cover(found.lay_facts))
        else:
            self.assertIs(type(found), Tree)
            self.assertEqual(told_tree(found), expected)
            self.assertIsNone(model.tree_fault(found))
        return found

    def test_beside_plain_reckoning(self):
        chance = random.Random(551)
        answers = {Cover: 0, Tree: 0}
        sizes = set()
        for _ in range(250):
            found = self.check(*both(*some_arguments(chance)))
            if found is not None:
                answers[type(found)] += 1
                sizes.add(found.size() if isinstance(found, Tree) else -len(found))
        self.assertGreater(min(answers.values()), 25)
        self.assertGreater(max(sizes), 40)
        self.assertLess(min(sizes), -3)

    def test_known_searches(self):
        boxes = (("3", "plain"), ("2", "plain"), ("1", "shy"))
        cover = search(Question("24", boxes, rounds=1, case="quiet"))
        self.assertEqual(cover, Cover((("2", "pull", 0, 1), ("3", "pull", 6, 1), ("2", "pull", 10, 1))))
        # The head of 1 and whatever follows leaves stroke 2 open.
        tree = search(Question("24", (("3", "plain"), ("1", "shy")), rounds=1, case="quiet"))
        self.assertEqual(tree, Tree(0, ((("1", "head", 0, 1), Tree(2)),)))

    def test_a_question_without_a_lay(self):
        for number in ("1", "24", "9951"):
            for times in (1, 2):
                self.assertEqual(search(Question(number, (), rounds=3, case="key", times=times)), Tree(0))
        question = Question("24", (("888", "plain"), ("777", "shy")), rounds=3, case="quiet")
        self.assertEqual((len(question), search(question)), (0, Tree(0)))

    def test_a_stroke_that_no_lay_gives(self):
        question = Question("12", (("1", "plain"), ("3", "plain")), rounds=2, case="quiet")
        self.assertEqual(question.lay_facts, (("1", "pull", 0, 2), ("1", "pull", 6, 2)))
        self.assertEqual(search(question), Tree(0, ((("1", "pull", 0, 2), Tree(4)),)))

    def test_just_one_cover(self):
        question, model = both("12", (("1", "plain"), ("2", "plain")), {"rounds": 1, "case": "quiet"})
        found = self.check(question, model)
        self.assertEqual(found.lay_facts, (("1", "pull", 0, 1), ("2", "pull", 4, 1)))
        self.assertEqual(model.least_covers(4), [found.lay_facts])

    def test_just_2000_nodes(self):
        question, model = both(*JUST_2000)
        self.assertEqual(model.search(5000)[1], 2000)
        tree = self.check(question, model)
        self.assertEqual(tree.size(), 2000)

    def test_2001_nodes(self):
        question, model = both(*JUST_2001)
        self.assertEqual(model.search(5000)[1], 2001)
        self.assertIsNone(self.check(question, model))
        # Each search counts anew.
        self.assertIsNone(self.check(question, model))
        self.assertEqual(search(Question("1", (), rounds=1, case="quiet")), Tree(0))

    def test_30_boxes(self):
        chance = random.Random(552)
        for _ in range(8):
            number, _, more = some_arguments(chance)
            boxes = [(name, "plain") for name in plain.some_numbers(chance.random(), 34) if name != number][:27]
            boxes += [(name, "plain") for name in ("1", "2", "3", "11", "12") if name != number][:3]
            self.check(*both(number, boxes, more))


class LeastCoversTest(unittest.TestCase):
    def check(self, question, model, most):
        """Compares with all sets of at most so many lays; returns the least covers."""
        covers = list(least_covers(question))
        expected = model.least_covers(most)
        if expected is not None:
            self.assertEqual([cover.lay_facts for cover in covers], expected)
        elif covers:
            self.assertGreater(len(covers[0]), most)
        for cover in covers:
            self.assertIs(type(cover), Cover)
            self.assertTrue(model.is_cover(cover.lay_facts))
        self.assertEqual(least_cover(question), covers[0] if covers else None)
        return covers

    def test_beside_all_sets_of_few_lays(self):
        chance = random.Random(561)
        many = []
        while len(many) < 120:
            question, model = both(*some_arguments(chance))
            if not 1 <= len(question) <= 24 or model.open_strokes(list(question)):
                continue
            covers = self.check(question, model, 4 if len(question) > 14 else 7)
            many.append((len(covers), len(covers[0]) if covers else 0))
        self.assertGreater(max(count for count, _ in many), 5)
        self.assertEqual({size for _, size in many} & {0, 1, 2, 3}, {0, 1, 2, 3})

    def test_order_by_indexes(self):
        boxes = (("3", "plain"), ("2", "plain"), ("1", "plain"))
        question = Question("24", boxes, rounds=1, case="quiet")
        indexes = {facts: index for index, facts in enumerate(question)}
        covers = [tuple(indexes[facts] for facts in cover) for cover in least_covers(question)]
        self.assertEqual(covers, sorted(covers))
        self.assertTrue(all(list(cover) == sorted(cover) for cover in covers))
        self.assertGreater(len(covers), 1)
        # The search takes the lays in the order of the strokes, the least covers in the order of the lays.
        self.assertNotEqual(search(question).lay_facts, least_cover(question).lay_facts)

    def test_none(self):
        for boxes in ((), (("3", "plain"),)):
            question = Question("24", boxes, rounds=1, case="quiet")
            self.assertEqual(list(least_covers(question)), [])
            self.assertIsNone(least_cover(question))

    def question_of(self, many):
        """A question with just so many lays."""
        boxes = [("1", "plain"), ("2", "plain"), ("3", "plain"), ("11", "plain"), ("12", "plain"), ("21", "plain")]
        for number in ("888", "8763", "9951", "6666", "99", "777", "567", "876", "8", "9", "88", "1234", "4321"):
            for size in range(1, 7):
                for rounds in (1, 2):
                    question = Question(number, boxes[:size], rounds=rounds, case="quiet")
                    if len(question) == many:
                        return question, PlainQuestion(number, boxes[:size], rounds=rounds, case="quiet")
        raise AssertionError("no question with so many lays")

    def test_24_lays(self):
        question, model = self.question_of(24)
        self.check(question, model, 3)

    def test_25_lays(self):
        question, _ = self.question_of(25)
        covers = least_covers(question)
        self.assertIsInstance(covers, types.GeneratorType)
        with self.assertRaises(TooManyLays) as caught:
            next(covers)
        self.assertEqual(caught.exception.count, 25)
        with self.assertRaises(TooManyLays) as caught:
            least_cover(question)
        self.assertEqual(caught.exception.count, 25)

    def test_many_more_lays(self):
        question = Question("888", [(number, "plain") for number in ("1", "2", "3", "4")], rounds=8, case="key")
        with self.assertRaises(TooManyLays) as caught:
            least_cover(question)
        self.assertEqual(caught.exception.count, len(question))


if __name__ == "__main__":
    unittest.main()

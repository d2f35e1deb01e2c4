"""[5.3], [5.4], [5.8] and the heading coverjudge.py."""

import random
import unittest

from tests import plain
from tests.papers import (
    APART_WIRES, CASES, GOOD_HEARING, WRONG_HEARING, PlainQuestion, made_tree, some_arguments, some_readings, told_tree,
)
from tests.test_covers import JUST_2000
from wheelchorus.coverjudge import cover_fault, reading_fault, safe_fault, tree_fault
from wheelchorus.covers import Cover, search
from wheelchorus.errors import BadQuestion, TooManyCases
from wheelchorus.question import Question
from wheelchorus.readable import Reading, Safe, false_reading
from wheelchorus.trees import Tree

BOXES = (("3", "plain"), ("2", "plain"), ("1", "shy"))
HEAD, LOW, MIDDLE, HIGH = ("1", "head", 0, 1), ("2", "pull", 0, 1), ("3", "pull", 6, 1), ("2", "pull", 10, 1)
# A tree without fault for "24" with just these two boxes.
FEW = (("3", "plain"), ("1", "shy"))
FEW_TREE = Tree(0, ((HEAD, Tree(2)),))
NO_FACTS = plain.ANY_OBJECTS + plain.WHOLE_NUMBERS + (
    list(LOW), ("2", "pull", False, 1), ("2", "pull", 0, True), LOW[:3], LOW + (1,), ("2", "pull", 2, 1), (LOW,),
    ("2", "pull", 0, 2), ("24", "pull", 0, 1), ("2", "head", 0, 1), (["2"], "pull", 0, 1), ("2", "pull", 0, [1]),
)


def one_in(chance, things):
    return chance.choice(list(things))


class CoverFaultTest(unittest.TestCase):
    QUESTION = Question("24", BOXES, rounds=1, case="quiet")

    def check(self, lay_facts, fault):
        kept = list(lay_facts)
        for things in (list(lay_facts), tuple(lay_facts)):
            found = cover_fault(self.QUESTION, things)
            self.assertEqual(found, fault)
            self.assertEqual(list(things), kept)

    def test_covers(self):
        self.check((LOW, MIDDLE, HIGH), None)
        self.check((HIGH, HEAD, MIDDLE, LOW), None)
        self.assertIsNone(cover_fault(self.QUESTION, Cover((LOW, MIDDLE, HIGH))))

    def test_lay(self):
        for thing in NO_FACTS:
            self.check((thing,), ("lay", 0))
            self.check((LOW, MIDDLE, thing, HIGH), ("lay", 2))
            self.check((LOW, LOW, thing, 0), ("lay", 2))

    def test_clash(self):
        self.check((LOW, LOW), ("clash", 0, 1))
        self.check((MIDDLE, HIGH, ("2", "pull", 8, 1)), ("clash", 1, 2))
        # The least index that clashes with an earlier one, and the least such earlier one.
        self.check((HIGH, LOW, MIDDLE, LOW, HIGH), ("clash", 1, 3))
        self.check((MIDDLE, HIGH, HIGH, HIGH, MIDDLE), ("clash", 1, 2))
        self.check((("2", "pull", 6, 1), HIGH), ("clash", 0, 1))
        self.check((LOW, ("2", "pull", 8, 1), ("3", "pull", 6, 1), ("3", "pull", 8, 1)), ("clash", 2, 3))

    def test_open(self):
        self.check((), ("open", 0))
        self.check((HEAD,), ("open", 2))
        self.check((LOW, HIGH), ("open", 6))
        self.check((MIDDLE, HIGH), ("open", 0))
        self.check((LOW, MIDDLE), ("open", 12))

    def test_beside_plain_reckoning(self):
        chance = random.Random(531)
        words = {}
        for _ in range(120):
            number, boxes, more = some_arguments(chance)
            question = Question(number, boxes, **more)
            model = PlainQuestion(number, boxes, **more)
            for _ in range(6 if len(question) else 1):
                things = chance.sample(list(question), min(len(question), chance.randint(0, 6)))
                if things and chance.random() < 0.4:
                    things.insert(chance.randint(0, len(things)), chance.choice(things))
                if chance.random() < 0.15:
                    things.insert(chance.randint(0, len(things)), one_in(chance, NO_FACTS))
                fault = cover_fault(question, things)
                self.assertEqual(fault, model.cover_fault(things))
                word = None if fault is None else fault[0]
                words[word] = words.get(word, 0) + 1
        self.assertEqual(set(words), {None, "lay", "clash", "open"})


class TreeFaultTest(unittest.TestCase):
    QUESTION = Question("24", BOXES, rounds=1, case="quiet")
    OTHER = Question("24", FEW, rounds=1, case="quiet")

    def test_no_fault(self):
        self.assertIsNone(tree_fault(self.OTHER, FEW_TREE))
        self.assertIsNone(tree_fault(Question("24", (), rounds=1, case="quiet"), Tree(12)))
        # A tree need not begin with the first stroke.
        self.assertIsNone(tree_fault(self.OTHER, Tree(2)))
        self.assertIsNone(tree_fault(self.OTHER, Tree(12, ((("3", "pull", 8, 1), Tree(6)),))))

    def check(self, tree, word, path=(), question=None):
        asked = self.QUESTION if question is None else question
        self.assertEqual(tree_fault(asked, tree), (word, path))
        self.assertEqual(PlainQuestion("24", asked.boxes, rounds=1, case="quiet").tree_fault(tree), (word, path))

    def test_stroke(self):
        for stroke in plain.ANY_OBJECTS + (-2, 1, 4, 14, 18, 10 ** 39, "0"):
            self.check(Tree(stroke), "stroke")
            self.check(Tree(stroke, ((LOW, Tree(6)), (list(LOW), Tree(0)))), "stroke")
        # A stroke that a chosen lay gives.
        self.check(Tree(0, ((HEAD, Tree(0)),)), "stroke", (0,), self.OTHER)
        self.check(Tree(0, ((LOW, Tree(2)), (HEAD, Tree(2)))), "stroke", (0,))

    def test_lay(self):
        for thing in NO_FACTS:
            self.check(Tree(0, ((LOW, Tree(6)), (thing, Tree(2)))), "lay")
            self.check(Tree(2, ((thing, Tree(2)), (thing, Tree(2)))), "lay")
        # It does not give the stroke; it clashes with a chosen one.
        self.check(Tree(0, ((LOW, Tree(6)), (MIDDLE, Tree(2)))), "lay")
        branch = Tree(12, ((("3", "pull", 8, 1), Tree(0)),))
        self.check(Tree(6, ((MIDDLE, branch),)), "missing")
        self.check(Tree(6, ((MIDDLE, branch), (("2", "pull", 6, 1), Tree(0)))), "lay", (0,))

    def test_double(self):
        self.check(Tree(0, ((LOW, Tree(6)), (LOW, Tree(6)))), "double")
        self.check(Tree(0, ((LOW, Tree(0)), (HEAD, Tree(0)), (HEAD, Tree(1)))), "double")
        self.check(Tree(0, ((LOW, Tree(0)), (LOW, Tree(0)), (MIDDLE, Tree(1)))), "double")
        self.check(Tree(0, ((LOW, Tree(0)), (MIDDLE, Tree(0)), (LOW, Tree(1)))), "lay")

    def test_missing(self):
        self.check(Tree(0), "missing")
        self.check(Tree(0, ((HEAD, Tree(0)),)), "missing")
        self.check(Tree(0, ((HEAD, Tree(2)), (LOW, Tree(6)))), "missing", (0,))
        self.check(Tree(0, ((LOW, Tree(1)), (HEAD, Tree(2)))), "stroke", (0,))

    def test_the_first_node_depth_first(self):
        wrong = Tree(2, ((("2", "pull", 0, 1), Tree(6)), (LOW, Tree(1))))
        self.check(Tree(0, ((HEAD, wrong), (LOW, Tree(0)))), "double", (0,))
        self.check(Tree(0, ((HEAD, Tree(2, ((LOW, Tree(4)),))), (LOW, Tree(0)))), "stroke", (0, 0))
        self.check(Tree(0, ((HEAD, Tree(2, ((LOW, Tree(6)),))), (LOW, Tree(0)))), "missing", (0, 0))

    def bent(self, chance, told, facts, deep=0):
        """The nested tuples of a tree, in which one node on the way down is another one."""
        stroke, branches = told
        if branches and chance.random() < 0.7:
            at = chance.randrange(len(branches))
            below = self.bent(chance, branches[at][1], facts, deep + 1)
            return stroke, branches[:at] + ((branches[at][0], below),) + branches[at + 1:]
        kind = chance.randrange(6)
        if kind == 0:
            return chance.choice((stroke + 2, stroke - 2, 0, None, True, "0", stroke + 1)), branches
        if kind == 1 and branches:
            at = chance.randrange(len(branches))
            return stroke, branches[:at] + branches[at + 1:]
        if kind == 2 and branches:
            return stroke, branches + (chance.choice(branches),)
        if kind == 3:
            thing = chance.choice(facts) if facts and chance.random() < 0.5 else one_in(chance, NO_FACTS)
            at = chance.randint(0, len(branches))
            return stroke, branches[:at] + ((thing, (0, ())),) + branches[at:]
        if kind == 4:
            return stroke, branches[::-1]
        return stroke, ()

    def test_bent_trees_beside_plain_reckoning(self):
        chance = random.Random(541)
        words = {}
        deepest = 0
        while sum(words.values()) < 400:
            number, boxes, more = some_arguments(chance)
            question = Question(number, boxes, **more)
            try:
                tree = search(question)
            except TooManyCases:
                continue
            if isinstance(tree, Cover) or tree.size() < 3:
                continue
            self.assertIsNone(tree_fault(question, tree))
            model = PlainQuestion(number, boxes, **more)
            for _ in range(5):
                bent = made_tree(self.bent(chance, told_tree(tree), list(question)))
                fault = tree_fault(question, bent)
                self.assertEqual(fault, model.tree_fault(bent))
                word = None if fault is None else fault[0]
                words[word] = words.get(word, 0) + 1
                deepest = max(deepest, 0 if fault is None else len(fault[1]))
        self.assertEqual(set(words), {None, "stroke", "lay", "double", "missing"})
        self.assertGreater(deepest, 3)

    def test_5000_nodes(self):
        number, boxes = "6923", (("6", "plain"), ("114", "plain"), ("2", "shy"), ("52", "plain"))
        more = {"rounds": 1, "case": "key", "times": 2}
        told, nodes = PlainQuestion(number, boxes, **more).search(5000)
        self.assertEqual(nodes, 5000)
        tree = made_tree(told)
        self.assertEqual(tree.size(), 5000)
        self.assertIsNone(tree_fault(Question(number, boxes, **more), tree))
        clean = Question(number, boxes, **more, clean=True)
        self.assertEqual(tree_fault(clean, tree), PlainQuestion(number, boxes, **more, clean=True).tree_fault(tree))

    def test_60_deep(self):
        question = Question("888", (("1", "plain"),), rounds=1, case="quiet", times=2)
        tree = Tree(0)
        for _ in range(59):
            tree = Tree(0, ((("1", "pull", 0, 1), tree),))
        self.assertEqual(tree_fault(question, tree), ("stroke", (0,)))
        # Pulls of one box that do not clash: just the node below all of them is faulty.
        chosen = (("1", "pull", 0, 1), ("1", "pull", 6, 1), ("1", "pull", 12, 1), ("1", "pull", 20, 1))
        tree = Tree(0)
        for facts in reversed(chosen):
            tree = Tree(facts[2], ((facts, tree),))
        self.assertEqual(tree_fault(question, tree), PlainQuestion("888", (("1", "plain"),), rounds=1, case="quiet",
                                                                   times=2).tree_fault(tree))
        self.assertEqual(tree_fault(question, tree), ("stroke", (0, 0, 0, 0)))


class SafeFaultTest(unittest.TestCase):
    def papers(self, boxes, number, rounds, triples):
        found = []
        for times, case, clean in triples:
            question = Question(number, boxes, rounds=rounds, case=case, times=times, clean=clean)
            found.append((times, case, clean, search(question)))
        return found

    def due(self, rounds, hear, key):
        """The lists of (times, case, clean) that a Safe may have."""
        cases = ["quiet"] + ["train"] * (rounds > 1) + ["key"] * key
        doubled = [(hear, case, False) for case in cases]
        if hear == 1:
            return [doubled]
        return [doubled + [(1, case, True) for case in cases], doubled + [(1, "quiet", False)]]

    def test_good_papers(self):
        for rounds, hear in ((1, 1), (2, 1), (2, 2), (8, 2)):
            for key in (False, True):
                for triples in self.due(rounds, hear, key):
                    for number in ("24", "99", "1"):
                        papers = self.papers((("777", "shy"),), number, rounds, triples)
                        safe = Safe(None, papers)
                        told = safe_fault((("777", "shy"),), number, safe, rounds=rounds, hear=hear, key=key)
                        self.assertIsNone(told)

    def test_other_papers(self):
        number, boxes = "24", (("777", "shy"),)
        for rounds, hear in ((1, 1), (2, 1), (2, 2)):
            for key in (False, True):
                due = self.due(rounds, hear, key)
                for triples in due:
                    papers = self.papers(boxes, number, rounds, triples)
                    for at, (times, case, clean, tree) in enumerate(papers):
                        others = [
                            (3 - times, case, clean, tree), (times, "quiet" if case != "quiet" else "train", clean, tree),
                            (times, case, not clean, tree), (times, case, int(clean), tree), (times, case, clean),
                            (times, case, clean, tree, tree), [times, case, clean, tree], None, tree,
                            (times, None, clean, tree), (str(times), case, clean, tree), (times, case, clean, None),
                            (times, "short", clean, tree), ([times], [case], clean, tree), (times, case, None, tree),
                        ]
                        if times == 1:
                            others.append((True, case, clean, tree))
                        for other in others:
                            wrong = papers[:at] + [other] + papers[at + 1:]
                            told = safe_fault(boxes, number, Safe(number, wrong), rounds=rounds, hear=hear, key=key)
                            self.assertEqual(told, ("papers",), other)
                    for wrong in (papers[:-1], papers[::-1], papers + papers[-1:], papers[1:], []):
                        if [paper[:3] for paper in wrong] not in due:
                            told = safe_fault(boxes, number, Safe(number, wrong), rounds=rounds, hear=hear, key=key)
                            self.assertEqual(told, ("papers",))

    def test_neither_ending_and_both(self):
        number, boxes = "24", ()
        one, other = self.due(2, 2, True)
        for triples in (one[:3], one + other[-1:], other + one[3:], one[:4], one[:3] + [(1, "train", False)]):
            safe = Safe(number, self.papers(boxes, number, 2, triples))
            self.assertEqual(safe_fault(boxes, number, safe, rounds=2, hear=2, key=True), ("papers",))

    def test_faults_of_trees(self):
        papers = self.papers(FEW, "24", 2, self.due(2, 1, True)[0])
        self.assertIsNone(safe_fault(FEW, "24", Safe("24", papers), rounds=2, key=True))
        for at in range(3):
            wrong = list(papers)
            wrong[at] = papers[at][:3] + (Tree(1),)
            told = safe_fault(FEW, "24", Safe("24", wrong), rounds=2, key=True)
            self.assertEqual(told, (at, "stroke", ()))
            wrong[2] = papers[2][:3] + (Tree(4),)
            told = safe_fault(FEW, "24", Safe("24", wrong), rounds=2, key=True)
            self.assertEqual(told, (at, "stroke", ()))
        deep = Tree(0, ((HEAD, Tree(6)),))
        self.assertEqual(safe_fault(FEW, "24", Safe("24", [(1, "quiet", False, deep)]), rounds=1), (0, "missing", (0,)))

    def test_trees_of_another_question(self):
        """The tree is judged for the times, the case and the clean of its own paper, and for the number passed."""
        chance = random.Random(581)
        told = set()
        for _ in range(200):
            number, boxes, _ = some_arguments(chance, 4)
            rounds, hear, key = 2, chance.choice((1, 2)), chance.random() < 0.5
            try:
                safe = false_reading(boxes, number, rounds=rounds, hear=hear, key=key)
            except TooManyCases:
                continue
            if not safe.is_safe:
                continue
            papers = list(safe.papers)
            one, other = chance.randrange(len(papers)), chance.randrange(len(papers))
            papers[one] = papers[one][:3] + papers[other][3:]
            expected = None
            for index, (times, case, clean, tree) in reversed(list(enumerate(papers))):
                model = PlainQuestion(number, boxes, rounds=rounds, case=case, times=times, clean=clean)
                fault = model.tree_fault(tree)
                expected = expected if fault is None else (index,) + fault
            moved = Safe("no number", papers)
            self.assertEqual(safe_fault(boxes, number, moved, rounds=rounds, hear=hear, key=key), expected)
            told.add(expected is None)
        self.assertEqual(told, {True, False})


class ReadingFaultTest(unittest.TestCase):
    COVER = (LOW, MIDDLE, HIGH)

    def check(self, reading, fault, boxes=BOXES, **more):
        self.assertEqual(reading_fault(boxes, reading, **more), fault)

    def reading(self, form="once", case="quiet", first=COVER, second=(), rounds=1):
        return Reading("24", rounds, form, case, first, second)

    def test_once(self):
        self.check(self.reading(), None)
        self.check(self.reading(first=list(self.COVER)), None)
        self.check(self.reading(), None, key=True)
        self.check(self.reading(case="train"), ("case",))
        self.check(self.reading(case="key"), ("case",))
        self.check(self.reading(first=self.COVER[:2]), ("first", ("open", 12)))
        self.check(self.reading(first=(LOW, LOW)), ("first", ("clash", 0, 1)))
        self.check(self.reading(first=(LOW, None)), ("first", ("lay", 1)))
        self.check(self.reading(rounds=2), ("first", ("lay", 0)))
        self.check(self.reading(), ("first", ("lay", 1)), boxes=BOXES[1:])

    def test_form(self):
        for form in plain.ANY_OBJECTS + ("Once", "doubled", "apart", "once "):
            self.check(self.reading(form), ("form",))
            self.check(self.reading(form, case="no", first=(None,)), ("form",))
        for form in plain.ANY_OBJECTS + ("once", "twice"):
            self.check(self.reading(form, rounds=2), ("form",), hear=2)
        for second in (self.COVER, (None,), ((),)):
            self.check(self.reading(second=second), ("form",))
            self.check(self.reading("doubled", second=second, rounds=2), ("form",), hear=2)
        self.check(self.reading("apart", rounds=2), ("first", ("lay", 0)), hear=2)
        self.check(self.reading("doubled", rounds=2), ("first", ("lay", 0)), hear=2)

    def test_case(self):
        for case in plain.ANY_OBJECTS + ("train", "Quiet", "short"):
            self.check(self.reading(case=case, first=(None,)), ("case",), key=True)
        for case in ("quiet", "train", "key"):
            reading = self.reading(case=case, first=(), rounds=2)
            self.check(reading, ("first", ("open", 0)) if case != "key" else ("case",))
            self.check(reading, ("first", ("open", 0)), key=True)
            self.check(self.reading(case=case, first=()), ("first", ("open", 0)) if case != "train" else ("case",),
                       key=True)

    def test_apart(self):
        readings = some_readings(random.Random(591), len(APART_WIRES))
        for boxes, reading, more in readings:
            self.assertEqual(reading.form, "apart")
            self.check(reading, None, boxes=boxes, **more)
            parts = (reading.number, reading.rounds, "apart", reading.case)
            first, second = reading.first, reading.second
            self.check(Reading(*parts, first, ()), ("second", ("open", 0)), boxes=boxes, **more)
            self.check(Reading(*parts, (), ()), ("first", ("open", 0)), boxes=boxes, **more)
            self.check(Reading(*parts, first, second + second[:1]), ("second", ("clash", 0, len(second))),
                       boxes=boxes, **more)
            self.check(Reading(*parts, first, (None,) + second), ("second", ("lay", 0)), boxes=boxes, **more)
            quiet = Question(reading.number, boxes, rounds=reading.rounds, case="quiet")
            self.check(Reading(*parts, first, first), None if cover_fault(quiet, first) is None else
                       ("second", cover_fault(quiet, first)), boxes=boxes, **more)

    def test_first_of_apart_is_clean(self):
        """A cover that is not clean is none for the first piece of a reading apart, but may be one for the second."""
        boxes = (("11", "shy"), ("2", "plain"))
        # The second round of 2 begins at the end of the row of 12.
        cover = (("11", "head", 0, 1), ("2", "pull", 4, 2))
        self.assertIsNone(cover_fault(Question("12", boxes, rounds=2, case="quiet"), cover))
        reading = Reading("12", 2, "apart", "quiet", cover, cover)
        self.check(reading, ("first", ("lay", 1)), boxes=boxes, hear=2)

    def test_returned_readings(self):
        forms = set()
        for boxes, reading, more in some_readings(random.Random(592), 80):
            self.check(reading, None, boxes=boxes, **more)
            forms.add((reading.form, reading.case))
            # One lay less leaves a stroke open, or another lay gave all of its strokes.
            question = Question(reading.number, boxes, rounds=reading.rounds, case=reading.case,
                                times=2 if reading.form == "doubled" else 1, clean=reading.form == "apart")
            fault = cover_fault(question, reading.first[1:])
            less = Reading(reading.number, reading.rounds, reading.form, reading.case, reading.first[1:],
                           reading.second)
            self.check(less, None if fault is None else ("first", fault), boxes=boxes, **more)
        self.assertEqual({form for form, _ in forms}, {"once", "doubled", "apart"})
        self.assertEqual({case for _, case in forms}, set(CASES))


class BadQuestionTest(unittest.TestCase):
    def judged(self, values):
        number, boxes, rounds = values["number"], values["boxes"], values["rounds"]
        more = {"hear": values["hear"], "key": values["key"]}
        # Papers and lays that are wrong as well come behind wrong arguments.
        safe = Safe(number, ())
        reading = Reading(number, rounds, "no form", "no case", (None,))
        return (
            lambda: safe_fault(boxes, number, safe, rounds=rounds, **more),
            lambda: reading_fault(boxes, reading, **more),
        )

    def check(self, what, values):
        for call in self.judged(values):
            with self.assertRaises(BadQuestion) as caught:
                call()
            self.assertEqual(caught.exception.what, what)

    def test_each_and_the_first_of_two(self):
        chance = random.Random(594)
        names = list(GOOD_HEARING)
        for at, one in enumerate(names):
            for thing in WRONG_HEARING[one]:
                self.check(one, {**GOOD_HEARING, one: thing})
                for other in names[at + 1:]:
                    self.check(one, {**GOOD_HEARING, one: thing, other: chance.choice(WRONG_HEARING[other])})

    def test_hear_2_needs_rounds_2(self):
        self.check("hear", {**GOOD_HEARING, "rounds": 1})
        for call in self.judged(GOOD_HEARING) + self.judged({**GOOD_HEARING, "rounds": 1, "hear": 1}):
            self.assertIsNotNone(call())


class GreatSearchTest(unittest.TestCase):
    def test_a_tree_of_2000_nodes(self):
        number, boxes, more = JUST_2000
        question = Question(number, boxes, **more)
        self.assertIsNone(tree_fault(question, search(question)))


if __name__ == "__main__":
    unittest.main()

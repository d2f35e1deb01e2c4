"""[2.2], [2.5] to [2.8] and the heading lays.py."""

import random
import unittest

from tests import plain
from tests.test_heads import plain_head
from wheelchorus.errors import BadCase, BadNumber, NoLay
from wheelchorus.lays import Lay, clash, lay_of, lays, train_strokes
from wheelchorus.numbers import length_of
from wheelchorus.rows import Strokes, pattern, strokes_of

CASES = ("quiet", "train", "key")
SMALL = [number for number in plain.ALL_NUMBERS if len(plain.row(number)) <= 14]


def plain_lays(offsets, span, boxes, most_rounds, case):
    """All lays as (number, kind, at, rounds, strokes, end), found by trying every place and number of rounds."""
    found = []
    for number, sort in boxes:
        length = len(plain.row(number))
        tries = []
        if sort == "shy":
            head = plain_head(number, offsets)
            if case == "quiet" and head:
                found.append((number, "head", 0, 1, tuple(sorted(head)), span))
            continue
        if case != "quiet":
            tries += [("train", 0, rounds) for rounds in range(1, most_rounds)]
        if case == "key":
            tries += [("tail", -p, rounds) for p in range(1, length) for rounds in range(1, most_rounds + 1)]
        tries += [("pull", at, most_rounds) for at in range(span)]
        for kind, at, rounds in tries:
            strokes = {offset for offset in plain.train(number, at, rounds) if 0 <= offset < span}
            if strokes and strokes <= offsets:
                found.append((number, kind, at, rounds, tuple(sorted(strokes)), at + rounds * length))
    return found


def told(lay):
    return lay.number, lay.kind, lay.at, lay.rounds, lay.strokes.offsets, lay.end


def some_question(chance):
    """A pattern, its span, boxes and rounds with which lays of all kinds are to be found."""
    numbers = chance.sample(SMALL, 4) + chance.sample(plain.ALL_NUMBERS, 2)
    boxes = tuple((number, chance.choice(("plain", "plain", "shy"))) for number in numbers)
    rounds = chance.randint(1, 8)
    offsets = set(plain.train(chance.choice(plain.ALL_NUMBERS), 0, chance.randint(1, 3)))
    number = chance.choice(SMALL)
    offsets |= {offset for offset in plain.train(number, chance.randint(-20, 20), rounds) if offset >= 0}
    span = chance.randint(1, 200)
    return {offset for offset in offsets if offset < span}, span, boxes, rounds


class TrainStrokesTest(unittest.TestCase):
    def test_known_trains(self):
        self.assertEqual(train_strokes("12", 0, 1, 12), strokes_of("12"))
        self.assertEqual(train_strokes("12", 3, 2, 200), Strokes([3, 7, 9, 15, 19, 21]))
        self.assertEqual(train_strokes("12", -4, 2, 200), Strokes([0, 2, 8, 12, 14]))
        self.assertEqual(train_strokes("12", -4, 2, 12), Strokes([0, 2, 8]))
        self.assertEqual(train_strokes("12", -6, 1, 1), Strokes([0]))
        self.assertEqual(train_strokes("12", -7, 1, 9), Strokes())

    def test_beside_plain_reckoning(self):
        chance = random.Random(12)
        for _ in range(500):
            number = chance.choice(plain.ALL_NUMBERS)
            at, rounds, span = chance.randint(-200, 200), chance.randint(1, 8), chance.randint(1, 200)
            expected = sorted(offset for offset in plain.train(number, at, rounds) if 0 <= offset < span)
            self.assertEqual(list(train_strokes(number, at, rounds, span)), expected)

    def test_far_away(self):
        for at in (10 ** 39, -10 ** 39, 200, -58 * 8):
            self.assertEqual(train_strokes("6666", at, 8, 200), Strokes())

    def test_errors(self):
        for thing in plain.ANY_OBJECTS + ("889", 12):
            with self.assertRaises(BadNumber) as caught:
                train_strokes(thing, 0, 1, 10)
            self.assertIs(caught.exception.number, thing)


class LaysTest(unittest.TestCase):
    def check(self, offsets, span, boxes, rounds):
        under = Strokes(sorted(offsets))
        for case in CASES:
            found = list(lays(under, span, boxes, rounds, case))
            self.assertEqual([told(lay) for lay in found], plain_lays(offsets, span, boxes, rounds, case))
            for lay in found:
                self.assertIs(type(lay), Lay)
                self.assertIs(type(lay.strokes), Strokes)
        self.assertEqual(list(under), sorted(offsets))

    def test_beside_plain_reckoning(self):
        chance = random.Random(13)
        kinds = set()
        for _ in range(60):
            offsets, span, boxes, rounds = some_question(chance)
            self.check(offsets, span, boxes, rounds)
            for case in CASES:
                kinds |= {lay.kind for lay in lays(Strokes(list(offsets)), span, boxes, rounds, case)}
        self.assertEqual(kinds, {"head", "pull", "train", "tail"})

    def test_known_lays(self):
        under = pattern("3")
        boxes = (("1", "plain"), ("12", "shy"), ("4", "shy"), ("2", "shy"))
        quiet = [lay.facts() for lay in lays(under, 10, boxes, 1, "quiet")]
        self.assertEqual(quiet, [
            ("1", "pull", 0, 1), ("1", "pull", 2, 1), ("1", "pull", 4, 1), ("12", "head", 0, 1),
            ("2", "head", 0, 1),
        ])
        train = [lay.facts() for lay in lays(under, 10, boxes, 2, "train")]
        self.assertEqual(train, [("1", "train", 0, 1), ("1", "pull", 4, 2)])
        key = [lay.facts() for lay in lays(under, 10, boxes, 2, "key")]
        self.assertEqual(key, [
            ("1", "train", 0, 1), ("1", "tail", -2, 2), ("1", "tail", -4, 2), ("1", "pull", 4, 2),
        ])

    def test_rounds_1_has_no_trains_and_tails_of_one_round(self):
        under = pattern("33")
        for lay in lays(under, len(plain.row("33")), (("12", "plain"), ("2", "plain")), 1, "key"):
            self.assertNotEqual(lay.kind, "train")
            self.assertEqual(lay.rounds, 1)

    def test_trains_ahead_of_offset_0_and_behind_the_span(self):
        offsets = {offset for offset in plain.train("12", -7, 4) if 0 <= offset < 30}
        self.check(offsets, 30, (("12", "plain"),), 4)
        facts = [lay.facts() for lay in lays(Strokes(list(offsets)), 30, (("12", "plain"),), 4, "key")]
        self.assertIn(("12", "tail", -7, 4), facts)
        self.assertIn(("12", "pull", 5, 4), facts)
        lay = lay_of(("12", "tail", -7, 4), Strokes(list(offsets)), 30, (("12", "plain"),), 4, "key")
        self.assertEqual((lay.end, lay.clean(30), lay.clean(41), lay.clean(40)), (41, False, True, False))

    def test_clean_by_one_tick(self):
        boxes = (("1", "plain"), ("2", "shy"))
        lay = lay_of(("1", "pull", 4, 1), pattern("3"), 10, boxes, 1, "quiet")
        self.assertEqual(lay.end, 10)
        self.assertIs(lay.clean(10), True)
        self.assertIs(lay.clean(9), False)
        self.assertIs(lay.clean(10 ** 39), True)
        self.assertIs(lay.clean(-10 ** 39), False)
        head = lay_of(("12", "head", 0, 1), pattern("3"), 10, (("12", "shy"),), 1, "quiet")
        self.assertEqual((head.end, head.clean(10), head.clean(9)), (10, True, False))

    def test_a_pattern_without_strokes_has_no_lays(self):
        for case in CASES:
            self.assertEqual(list(lays(Strokes(), 20, (("1", "plain"), ("2", "shy")), 3, case)), [])
            self.assertEqual(list(lays(pattern("1"), 20, (), 3, case)), [])

    def test_greatest_size(self):
        full = Strokes(list(range(200)))
        numbers = plain.some_numbers(14, 30)
        boxes = tuple((number, "plain") for number in numbers)
        found = list(lays(full, 200, boxes, 8, "key"))
        tails = [lay for lay in found if lay.kind == "tail"]
        self.assertEqual(len([lay for lay in found if lay.kind == "pull"]), 30 * 200)
        self.assertEqual(len([lay for lay in found if lay.kind == "train"]), 30 * 7)
        # Of a tail of one round just the places p that leave a stroke count.
        expected = sum(7 * (length_of(number) - 1) + length_of(number) - 6 for number in numbers)
        self.assertEqual(len(tails), expected)

    def test_bad_case_when_iterated(self):
        for thing in plain.ANY_OBJECTS + plain.WHOLE_NUMBERS + ("Quiet", "short", "key "):
            for boxes in ((), (("1", "plain"),)):
                generator = lays(pattern("3"), 10, boxes, 2, thing)
                with self.assertRaises(BadCase) as caught:
                    next(generator)
                self.assertIs(caught.exception.case, thing)


class LayTest(unittest.TestCase):
    BOXES = (("1", "plain"), ("12", "shy"), ("2", "plain"))

    def test_gives_and_facts(self):
        lay = lay_of(("1", "tail", -2, 2), pattern("3"), 10, self.BOXES, 2, "key")
        self.assertEqual(lay.facts(), ("1", "tail", -2, 2))
        self.assertIs(type(lay.facts()), tuple)
        self.assertEqual([offset for offset in range(-5, 15) if lay.gives(offset)], [4])
        self.assertIs(lay.gives(4), True)
        self.assertIs(lay.gives(-2), False)
        self.assertIs(lay.gives(10 ** 39), False)

    def test_equality(self):
        facts = ("1", "pull", 4, 2)
        lay = lay_of(facts, pattern("3"), 10, self.BOXES, 2, "quiet")
        self.assertTrue(lay == lay_of(facts, pattern("3"), 10, self.BOXES[:1], 2, "key"))
        for thing in (facts, None, "1", 4, [lay]):
            self.assertFalse(lay == thing)
        six = (lay.number, lay.kind, lay.at, lay.rounds, lay.strokes, lay.end)
        self.assertTrue(lay == Lay(*six))
        for at, other in enumerate(("2", "tail", 3, 1, Strokes([4, 5]), 17)):
            self.assertTrue(lay != Lay(*six[:at], other, *six[at + 1:]))

    def test_equal_facts_with_other_strokes_are_other_lays(self):
        one = lay_of(("1", "pull", 0, 2), Strokes([0, 6]), 10, self.BOXES, 2, "quiet")
        other = lay_of(("1", "pull", 0, 2), Strokes([0]), 6, self.BOXES, 2, "quiet")
        self.assertEqual(one.facts(), other.facts())
        self.assertFalse(one == other)

    def test_lay_of_all_lays(self):
        chance = random.Random(15)
        for _ in range(15):
            offsets, span, boxes, rounds = some_question(chance)
            under = Strokes(list(offsets))
            for case in CASES:
                found = list(lays(under, span, boxes, rounds, case))
                for lay in chance.sample(found, min(4, len(found))):
                    self.assertEqual(lay_of(lay.facts(), under, span, boxes, rounds, case), lay)

    def test_nobodys_facts(self):
        facts = ("1", "train", 0, 1)
        self.assertEqual(lay_of(facts, pattern("3"), 10, self.BOXES, 2, "train").facts(), facts)
        wrong = plain.ANY_OBJECTS + plain.WHOLE_NUMBERS + (
            list(facts), ("1", "train", False, 1), ("1", "train", 0, True), ("1", "train", False, True), facts[:3],
            facts + (1,), ("1", "train", 0, 2), ("12", "train", 0, 1), ("1", "head", 0, 1), ("3", "train", 0, 1),
            (("1",), "train", 0, 1), ("1", "train", [0], 1), facts[::-1], (facts,), "1train01",
        )
        for thing in wrong:
            with self.assertRaises(NoLay) as caught:
                lay_of(thing, pattern("3"), 10, self.BOXES, 2, "train")
            self.assertIs(caught.exception.wanted, thing)
            for case in plain.ANY_OBJECTS + ("Train",):
                with self.assertRaises(BadCase) as caught:
                    lay_of(thing, pattern("3"), 10, self.BOXES, 2, case)
                self.assertIs(caught.exception.case, case)

    def test_clash_beside_plain_reckoning(self):
        chance = random.Random(16)
        answers = set()
        for _ in range(25):
            offsets, span, boxes, rounds = some_question(chance)
            found = []
            for case in CASES:
                found += lays(Strokes(list(offsets)), span, boxes, rounds, case)
            for _ in range(200 if found else 0):
                one, other = chance.choice(found), chance.choice(found)
                both = set(range(one.at, one.end)) & set(range(other.at, other.end))
                expected = one.number == other.number and bool(both)
                self.assertIs(clash(one, other), expected)
                answers.add((one.number == other.number, expected))
        self.assertEqual(answers, {(True, True), (True, False), (False, False)})

    def test_clash_by_one_tick(self):
        def pull(at, number="1"):
            return lay_of((number, "pull", at, 1), Strokes(list(range(40))), 40, self.BOXES, 1, "quiet")
        self.assertIs(clash(pull(4), pull(10)), False)
        self.assertIs(clash(pull(10), pull(4)), False)
        self.assertIs(clash(pull(4), pull(9)), True)
        self.assertIs(clash(pull(9), pull(4)), True)
        self.assertIs(clash(pull(4), pull(4)), True)
        self.assertIs(clash(pull(4), pull(4, "2")), False)


if __name__ == "__main__":
    unittest.main()

"""[6.7], [6.8], [6.10], [6.11] and the heading hiding.py."""

import itertools
import random
import unittest

from tests import plain, played
from tests.papers import some_boxes
from tests.test_spoils import GOOD, MANY, SHORT, WRONG, Checks
from wheelchorus.hiding import (
    Hiding, Holding, first_hidden, held_back, hidden, hiding_page, pulls_on_plain, who_hides,
)
from wheelchorus.hidingjudge import hiding_fault

WRONG_WIRES = ((), []) + WRONG["boxes"][:-4] + (MANY[:31], {"1": "plain"}, [(["1"], "plain")])
WRONG_WIRES = tuple(thing for thing in WRONG_WIRES if thing != [("12", "plain")])


def plain_pulls(boxes, number, rounds, hear):
    """The pulls of [6.7] for a plain called box, word by word; None if there are none."""
    length = len(plain.row(number))
    rows = [(name, sort) + played.most_spoilt(number, name, sort, rounds) for name, sort in boxes]
    plains = [row for row in rows if row[1] == "plain"]
    shys = [row for row in rows if row[1] == "shy"]
    count = played.fewest(rows, rounds, hear)
    if count is None:
        return None
    if plains:
        q = max(row[2] for row in plains)
        name = next(row[0] for row in plains if row[2] == q)
        if played.fewest(plains, rounds, hear) == count:
            if hear == 1:
                return tuple(((1 + j * q) * length - 1, name) for j in range(count))
            return tuple(((2 + j * (q + 1)) * length - 1, name) for j in range(count))
    m = max(row[2] for row in shys)
    first = next((row[3], row[0]) for row in shys if row[2] == m)
    if hear == 1:
        return (first,) + tuple(((m + 1 + j * q) * length - 1, name) for j in range(count - 1))
    return (first,) + tuple(((m + 2 + j * (q + 1)) * length - 1, name) for j in range(count - 1))


def shy_pulls(boxes, number, rounds, hear):
    """The pulls of [6.8]."""
    if hear == 1 or not boxes:
        return None
    shys = [name for name, sort in boxes if sort == "shy"]
    if shys:
        return ((1, shys[0]),)
    name = boxes[0][0]
    length, other_length = len(plain.row(number)), len(plain.row(name))
    offsets = [length]
    for i in range(1, rounds - 1):
        offsets.append(offsets[-1] + length + rounds * other_length + 3 + i)
    return tuple((at, name) for at in offsets)


def expected_pulls(boxes, number, sort, rounds, hear):
    return (plain_pulls if sort == "plain" else shy_pulls)(boxes, number, rounds, hear)


def some_wire(chance, most=5, pool=None):
    """Boxes, one number more, its sort, rounds and hear."""
    boxes = some_boxes(chance, chance.randint(1, most + 1), pool)
    number, sort = boxes[0]
    rounds = chance.randint(1, 8)
    return boxes[1:], number, sort, rounds, chance.randint(1, min(2, rounds))


class HiddenTest(Checks, unittest.TestCase):
    def check(self, boxes, number, sort, rounds, hear):
        found = hidden(boxes, number, sort, rounds=rounds, hear=hear)
        expected = expected_pulls(boxes, number, sort, rounds, hear)
        if expected is None:
            self.assertIsNone(found)
            return None
        self.assertIs(type(found), Hiding)
        self.assertEqual((found.number, found.box_sort, found.pulls), (number, sort, expected))
        self.assertIs(type(found.pulls), tuple)
        self.assertEqual((list(found), len(found)), (list(expected), len(expected)))
        self.assertEqual(list(found.pulls), sorted(found.pulls))
        # They are played, and hide the box.
        self.assertIsNone(hiding_fault(boxes, number, sort, found.pulls, rounds=rounds, hear=hear))
        return found

    def test_beside_plain_reckoning(self):
        chance = random.Random(671)
        told = set()
        for _ in range(500):
            pool = chance.choice((SHORT[:12], SHORT, plain.ALL_NUMBERS))
            boxes, number, sort, rounds, hear = some_wire(chance, 5, pool)
            found = self.check(boxes, number, sort, rounds, hear)
            sorts = dict(boxes)
            first = None if found is None else sorts[found.pulls[0][1]]
            told.add((sort, hear, None if found is None else min(len(found), 3), first))
        for word in (("plain", 1, 1, "plain"), ("plain", 1, 1, "shy"), ("plain", 1, 2, "plain"),
                     ("plain", 2, 1, "plain"), ("plain", 1, None, None), ("plain", 2, None, None), ("shy", 1, None, None),
                     ("shy", 2, 1, "shy"), ("shy", 2, 1, "plain"), ("shy", 2, 3, "plain"), ("shy", 2, None, None)):
            self.assertIn(word, told)

    def test_several_pulls(self):
        """A long called box and short others, so that one pull spoils few of the rounds."""
        told = set()
        for number in ("9951", "888", "6666", "66"):
            for sorts in (("plain",), ("shy", "plain"), ("plain", "shy"), ("plain", "shy", "plain", "shy")):
                boxes = list(zip(("1", "2", "11", "9942"), sorts))
                for rounds in range(1, 9):
                    for hear in range(1, min(2, rounds) + 1):
                        found = self.check(boxes, number, "plain", rounds, hear)
                        told.add((hear, len(found), dict(boxes)[found.pulls[0][1]]))
        self.assertTrue({(1, 2, "plain"), (1, 3, "plain"), (1, 4, "plain"), (2, 2, "plain")} <= told, told)

    def test_none_and_only_some_sorts(self):
        for rounds, hear in ((1, 1), (8, 1), (2, 2), (8, 2)):
            for sort in ("plain", "shy"):
                self.assertIsNone(self.check((), "12", sort, rounds, hear))
                for one in ("plain", "shy"):
                    boxes = [(number, one) for number in ("3", "4", "111", "21")]
                    self.check(boxes, "12", sort, rounds, hear)
                    self.check(tuple(boxes[::-1]), "12", sort, rounds, hear)
        self.assertEqual(self.check([("3", "shy")], "12", "plain", 1, 1).pulls, ((0, "3"),))
        self.assertEqual(self.check([("3", "shy")], "12", "plain", 2, 2).pulls, ((0, "3"),))
        self.assertIsNone(self.check([("3", "shy")], "12", "plain", 3, 2))
        self.assertEqual(len(self.check([("9951", "shy"), ("32", "shy")], "1", "plain", 3, 1)), 1)

    def test_the_first_of_several_with_the_same_count(self):
        # Numbers with rows of one length have the same count.
        for boxes in ((("3", "plain"), ("11", "plain")), (("11", "plain"), ("3", "plain"))):
            self.assertEqual(self.check(boxes, "9951", "plain", 8, 1).pulls[0][1], boxes[0][0])
            self.assertEqual(self.check(boxes, "9951", "shy", 8, 2).pulls[0][1], boxes[0][0])
        for boxes in ((("2", "shy"), ("1", "shy")), (("1", "shy"), ("2", "shy"))):
            self.assertEqual(self.check(boxes, "9951", "plain", 1, 1).pulls[0][1], boxes[0][0])
            self.assertEqual(self.check((("3", "plain"),) + boxes, "12", "shy", 8, 2).pulls, ((1, boxes[0][0]),))

    def test_plain_pulls_alone_if_they_are_as_few(self):
        found = self.check((("1", "shy"), ("3", "plain")), "12", "plain", 1, 1)
        self.assertEqual(found.pulls, ((11, "3"),))
        found = self.check((("3", "shy"), ("1", "plain")), "12", "plain", 1, 1)
        self.assertEqual(found.pulls, ((11, "1"),))

    def test_a_shy_pull_first(self):
        """No boxes make it fewer pulls than plain ones alone, but the words tell where the plain ones would be."""
        table = (("3", "plain", 2, 17), ("4", "plain", 2, 17), ("5", "shy", 4, -3), ("6", "shy", 5, -2),
                 ("7", "shy", 5, -4))
        for rounds, hear, expected in (
            (8, 1, ((-2, "6"), (6 * 18 - 1, "3"), (8 * 18 - 1, "3"))), (7, 1, ((-2, "6"), (6 * 18 - 1, "3"))),
            (6, 1, ((-2, "6"), (6 * 18 - 1, "3"))), (5, 1, ((-2, "6"),)), (8, 2, ((-2, "6"), (7 * 18 - 1, "3"))),
            (6, 2, ((-2, "6"),)), (4, 2, ((2 * 18 - 1, "3"),)),
        ):
            self.assertEqual(pulls_on_plain(table, "24", rounds, hear), expected)
        more = (("3", "plain", 1, 17), ("6", "shy", 4, -2))
        self.assertEqual(pulls_on_plain(more, "24", 8, 2), ((-2, "6"), (6 * 18 - 1, "3"), (8 * 18 - 1, "3")))

    def test_known_shy_called_boxes(self):
        self.assertEqual(hidden([("3", "plain"), ("1", "plain")], "12", "shy", rounds=4, hear=2).pulls,
                         ((12, "3"), (12 + 12 + 40 + 4, "3"), (12 + 12 + 40 + 4 + 12 + 40 + 5, "3")))
        self.assertEqual(hidden([("3", "plain")], "12", "shy", rounds=2, hear=2).pulls, ((12, "3"),))
        self.assertEqual(hidden([("3", "plain"), ("1", "shy")], "12", "shy", rounds=8, hear=2).pulls, ((1, "1"),))
        self.assertIsNone(hidden([("3", "plain"), ("1", "shy")], "12", "shy", rounds=8))

    def fewer(self, boxes, number, sort, rounds, hear, many, step=1):
        """Whether some row of so many pulls hides the box, at offsets from all at which a pull can matter."""
        length = len(plain.row(number))
        longest = max(len(plain.row(name)) for name, _ in boxes)
        if sort == "plain":
            low, high = -rounds * longest - 10, rounds * length
        else:
            low, high = 1, rounds * (length + 10) + many * rounds * (longest + 14)
        pulls = [(at, name) for at in range(low, high, step) for name, _ in boxes]
        for row in itertools.combinations(pulls, many):
            if hiding_fault(boxes, number, sort, row, rounds=rounds, hear=hear) is None:
                return True
        return False

    def test_no_row_of_fewer_pulls(self):
        told = set()
        for boxes, number, sort, rounds, hear in (
            ([("1", "plain")], "3", "plain", 3, 1), ([("1", "plain")], "12", "plain", 4, 1),
            ([("1", "plain"), ("2", "shy")], "31", "plain", 3, 1), ([("1", "plain"), ("2", "shy")], "888", "plain", 2, 1),
            ([("1", "plain")], "66", "plain", 5, 2), ([("2", "shy"), ("1", "shy")], "13", "plain", 4, 1),
            ([("2", "shy"), ("1", "shy")], "13", "plain", 5, 2), ([("1", "plain")], "2", "shy", 3, 2),
            ([("2", "plain"), ("1", "plain")], "11", "shy", 3, 2), ([("1", "plain"), ("3", "shy")], "2", "plain", 1, 1),
            ([("1", "shy")], "12", "shy", 3, 1),
            ([("1", "plain")], "12", "shy", 2, 1),
        ):
            found = self.check(boxes, number, sort, rounds, hear)
            count = None if found is None else len(found)
            told.add((sort, hear, count))
            for many in range(2 if count is None else min(count, 2)):
                self.assertFalse(self.fewer(boxes, number, sort, rounds, hear, many), (boxes, number, rounds, many))
        self.assertTrue({("plain", 1, 2), ("plain", 1, None), ("shy", 2, 2)} <= told, told)

    def test_no_row_of_two_pulls(self):
        """Hidden by three pulls, or by none: no two pulls hide it."""
        self.assertEqual(len(self.check([("1", "plain")], "888", "plain", 5, 1)), 3)
        self.assertFalse(self.fewer([("1", "plain")], "888", "plain", 5, 1, 2, 3))
        self.assertEqual(len(self.check([("1", "plain")], "2", "shy", 4, 2)), 3)
        self.assertFalse(self.fewer([("1", "plain")], "2", "shy", 4, 2, 2, 3))
        for rounds, hear in ((3, 1), (4, 2)):
            self.assertIsNone(self.check([("1", "shy")], "2", "plain", rounds, hear))
            self.assertFalse(self.fewer([("1", "shy")], "2", "plain", rounds, hear, 2))

    def test_30_boxes_on_the_wire(self):
        chance = random.Random(672)
        for sort in ("plain", "shy"):
            boxes = some_boxes(chance, 29, [name for name, _ in MANY])
            self.check(boxes, "12", sort, 8, 1)
            self.check(boxes, "12", sort, 8, 2)

    def test_errors(self):
        def call(number, sort, boxes, rounds, hear):
            return hidden(boxes, number, sort, rounds=rounds, hear=hear)
        self.check_words(call, ("number", "sort", "boxes", "rounds", "hear"), WRONG, GOOD)
        self.check_word("hear", call, {**{name: GOOD[name] for name in ("number", "sort", "boxes")}, "rounds": 1, "hear": 2})

    def test_what_was_passed_stays(self):
        boxes = [["3", "plain"], ["1", "shy"]]
        hidden(boxes, "12", "plain", rounds=3)
        self.assertEqual(boxes, [["3", "plain"], ["1", "shy"]])


class WhoHidesTest(Checks, unittest.TestCase):
    def expected(self, boxes, rounds, hear, many=30):
        """The rows of the first so many boxes."""
        rows = []
        for number, sort in boxes[:many]:
            others = [tuple(box) for box in boxes if box[0] != number]
            pulls = expected_pulls(others, number, sort, rounds, hear)
            alone = [box[0] for box in others
                     if len(expected_pulls([box], number, sort, rounds, hear) or ()) == 1]
            rows.append((number, sort, None if pulls is None else len(pulls), tuple(alone)))
        return tuple(rows)

    def test_beside_plain_reckoning(self):
        chance = random.Random(6101)
        for _ in range(60):
            boxes = [list(box) for box in some_boxes(chance, chance.randint(1, 6))]
            rounds = chance.randint(1, 8)
            hear = chance.randint(1, min(2, rounds))
            expected = self.expected(boxes, rounds, hear)
            found = who_hides(boxes, rounds=rounds, hear=hear)
            self.assertEqual(found, expected)
            self.assertIs(type(found), tuple)
            lines = []
            for number, sort, count, alone in expected:
                told = "--" if count is None else str(count)
                line = number + " " * (5 - len(number)) + sort + " " * (6 - len(sort)) + " " * (2 - len(told)) + told
                lines.append(line + "".join(f" {name}" for name in alone))
            self.assertEqual(hiding_page(boxes, rounds=rounds, hear=hear), tuple(lines))
            for most in (0, 1, 2, 7, 10 ** 39):
                first = next((row for row in expected if row[2] is not None and row[2] <= most), None)
                hiding = first_hidden(boxes, rounds=rounds, hear=hear, most=most)
                if first is None:
                    self.assertIsNone(hiding)
                else:
                    others = [tuple(box) for box in boxes if box[0] != first[0]]
                    pulls = expected_pulls(others, first[0], first[1], rounds, hear)
                    self.assertEqual((hiding.number, hiding.box_sort, hiding.pulls), (first[0], first[1], pulls))

    def test_known_page(self):
        boxes = (("12", "plain"), ("3", "shy"), ("9951", "plain"))
        self.assertEqual(hiding_page(boxes, rounds=2), (
            "12   plain  1 9951", "3    shy   --", "9951 plain  1 12",
        ))
        self.assertEqual(hiding_page((("12", "shy"), ("3", "plain")), rounds=4, hear=2), (
            "12   shy    3", "3    plain --",
        ))
        self.assertEqual(hiding_page([("12", "plain")], rounds=1), ("12   plain --",))

    def test_defaults(self):
        boxes = (("12", "shy"), ("3", "shy"))
        self.assertEqual(who_hides(boxes, rounds=2), (("12", "shy", None, ()), ("3", "shy", None, ())))
        self.assertEqual(who_hides(boxes, rounds=2, hear=2), (("12", "shy", 1, ("3",)), ("3", "shy", 1, ("12",))))
        self.assertEqual(hiding_page(boxes, rounds=2), ("12   shy   --", "3    shy   --"))
        self.assertIsNone(first_hidden(boxes, rounds=2, most=9))

    def test_one_box(self):
        self.assertEqual(who_hides([("12", "shy")], rounds=2, hear=2), (("12", "shy", None, ()),))
        self.assertIsNone(first_hidden([("12", "plain")], rounds=1, most=99))

    def test_30_boxes(self):
        chance = random.Random(6102)
        longest = sorted(plain.ALL_NUMBERS, key=lambda number: -len(plain.row(number)))[:300]
        boxes = some_boxes(chance, 30, longest)
        rows = who_hides(boxes, rounds=8)
        self.assertEqual([row[:2] for row in rows], list(boxes))
        self.assertEqual(rows[:3], self.expected(boxes, 8, 1, 3))

    def test_errors(self):
        wrong = {**WRONG, "boxes": WRONG_WIRES, "most": plain.ANY_OBJECTS + (-1, -10 ** 39, "1")}
        good = {**GOOD, "most": 0}
        for call in (who_hides, hiding_page):
            self.check_words(call, ("boxes", "rounds", "hear"), wrong, good)
        self.check_words(first_hidden, ("boxes", "rounds", "hear", "most"), wrong, good)
        for call in (who_hides, hiding_page):
            self.check_word("hear", call, {"boxes": GOOD["boxes"], "rounds": 1, "hear": 2})


class HeldBackTest(Checks, unittest.TestCase):
    def test_known(self):
        found = held_back("12", [("3", "plain"), ("1", "plain"), ("4", "shy")], rounds=2, count=3)
        self.assertIs(type(found), Holding)
        self.assertEqual((found.number, found.pulls, found.sent),
                         ("12", ((11, "3"), (11 + 34, "3"), (11 + 68, "3")), 11 + 102))
        self.assertIs(type(found.pulls), tuple)
        for boxes in ((), [("4", "shy")], [("3", "plain")]):
            found = held_back("12", boxes, rounds=2, count=0)
            self.assertEqual((found.number, found.pulls, found.sent), ("12", (), 11))
        for boxes in ((), [("4", "shy")]):
            for count in (1, 8):
                self.assertIsNone(held_back("12", boxes, rounds=2, count=count))

    def test_played(self):
        """The first whole round of the called box ends just then."""
        chance = random.Random(6111)
        for _ in range(60):
            boxes, number, _, rounds, _ = some_wire(chance, 4, chance.choice((SHORT, plain.ALL_NUMBERS)))
            plains = [name for name, sort in boxes if sort == "plain"]
            count = chance.randint(0, 4)
            found = held_back(number, boxes, rounds=rounds, count=count)
            if count and not plains:
                self.assertIsNone(found)
                continue
            result = played.Played(boxes, number, "shy", found.pulls, rounds)
            self.assertEqual(result.refused, [])
            self.assertEqual(result.called_ends[0], found.sent)
            self.assertEqual(len(found.pulls), count)
            if count:
                longest = max(len(plain.row(name)) for name in plains)
                names = {name for _, name in found.pulls}
                self.assertEqual(names, {next(name for name in plains if len(plain.row(name)) == longest)})

    def test_no_pulls_hold_it_back_longer(self):
        chance = random.Random(6112)
        for boxes, number, rounds in (
            ([("1", "plain"), ("2", "plain")], "11", 1), ([("2", "plain")], "3", 2), ([("12", "plain")], "1", 1),
        ):
            latest = held_back(number, boxes, rounds=rounds, count=1).sent
            ends = [played.Played(boxes, number, "shy", [(at, name)], rounds).called_ends[0]
                    for at in range(70) for name, _ in boxes]
            self.assertEqual(max(ends), latest)
            for count in (2, 3):
                latest = held_back(number, boxes, rounds=rounds, count=count).sent
                for _ in range(150):
                    offsets = sorted(chance.choices(range(latest + 5), k=count))
                    pulls = [(at, chance.choice(boxes)[0]) for at in offsets]
                    self.assertLessEqual(played.Played(boxes, number, "shy", pulls, rounds).called_ends[0], latest)

    def test_errors(self):
        def call(number, boxes, rounds, count):
            return held_back(number, boxes, rounds=rounds, count=count)
        wrong = {**WRONG, "count": plain.ANY_OBJECTS + (-1, 9, 10 ** 39, "1")}
        self.check_words(call, ("number", "boxes", "rounds", "count"), wrong, {**GOOD, "count": 8})


if __name__ == "__main__":
    unittest.main()

"""[6.1] to [6.6] and the heading spoils.py."""

import random
import time
import unittest

from tests import plain, played
from tests.papers import some_boxes
from wheelchorus.errors import BadHiding
from wheelchorus.spoils import fewest, is_foreign, most_spoilt, spoil_table, spoilt_by, stays, window

SHORT = [number for number in plain.ALL_NUMBERS if len(plain.row(number)) <= 16]
SORTS = ("plain", "shy")
MANY = tuple((number, "plain") for number in plain.some_numbers(621, 40) if number != "12")
WRONG = {
    "number": plain.ANY_OBJECTS + ("889", 24, ("12",)),
    "sort": plain.ANY_OBJECTS + plain.WHOLE_NUMBERS + ("Plain", "shy "),
    "other": plain.ANY_OBJECTS + ("889", 24, "12"),
    "boxes": tuple(thing for thing in plain.ANY_OBJECTS if thing not in ((), [])) + plain.WHOLE_NUMBERS + (
        "1", ["1"], [("1", "plain"), ("1", "shy")], [("12", "plain")], [("1", "Plain")], [("1",)], [("0", "shy")],
        [("1", "plain", 1)], MANY[:30], [(["1"], "plain")], {"1": "plain"},
    ),
    "rounds": plain.ANY_OBJECTS + (0, 9, -1, 10 ** 39),
    "hear": plain.ANY_OBJECTS + (0, 3, -1, 10 ** 39),
}
GOOD = {"number": "12", "sort": "plain", "other": "3", "boxes": (("3", "plain"), ("4", "shy")), "rounds": 3, "hear": 2}


class Checks:
    """That a function tells the first wrong argument, in the order of its names."""

    def check_word(self, what, call, values):
        with self.assertRaises(BadHiding) as caught:
            call(**values)
        self.assertEqual(caught.exception.what, what)

    def check_words(self, call, names, wrong, good):
        chance = random.Random(622)
        call(**{name: good[name] for name in names})
        for at, one in enumerate(names):
            for thing in wrong[one]:
                values = {name: good[name] for name in names}
                values[one] = thing
                self.check_word(one, call, values)
                for other in names[at + 1:]:
                    self.check_word(one, call, {**values, other: chance.choice(wrong[other])})


class WindowTest(Checks, unittest.TestCase):
    def test_known_windows(self):
        self.assertEqual(window("12", 0), (-5, 11))
        self.assertEqual(window("12", 1), (7, 23))
        self.assertEqual(window("1", 10 ** 39), (6 * 10 ** 39 - 5, 6 * 10 ** 39 + 5))

    def test_beside_plain_reckoning(self):
        for number in plain.some_numbers(631, 60):
            for index in (0, 1, 7, 100):
                told = played.window(number, index)
                self.assertEqual(window(number, index), (told.start, told.stop - 1))

    def test_errors(self):
        wrong = {"number": WRONG["number"], "index": plain.ANY_OBJECTS + (-1, -10 ** 39, "0")}
        self.check_words(window, ("number", "index"), wrong, {"number": "12", "index": 0})


class IsForeignTest(Checks, unittest.TestCase):
    def test_beside_plain_reckoning(self):
        for number in plain.some_numbers(632, 30) + ["1", "888"]:
            for rounds in (1, 2, 8):
                own = plain.train(number, 0, rounds)
                for offset in range(-70, rounds * len(plain.row(number)) + 70):
                    self.assertIs(is_foreign(number, offset, rounds=rounds), offset not in own)

    def test_far_away(self):
        for offset in (10 ** 39, -10 ** 39, 12 * 10 ** 38, -12 * 10 ** 38):
            self.assertIs(is_foreign("12", offset, rounds=8), True)

    def test_errors(self):
        def call(number, rounds):
            return is_foreign(number, 0, rounds=rounds)
        self.check_words(call, ("number", "rounds"), WRONG, GOOD)


class SpoiltByTest(Checks, unittest.TestCase):
    def test_known_pulls(self):
        # The row of 12 is 12 ticks long, its strokes are 0, 4, 6.
        self.assertEqual(spoilt_by("12", "1", "plain", 0, rounds=1), ())
        self.assertEqual(spoilt_by("12", "1", "plain", 1, rounds=1), (0,))
        self.assertEqual(spoilt_by("12", "1", "plain", -5, rounds=1), (0,))
        self.assertEqual(spoilt_by("12", "1", "plain", -6, rounds=1), ())
        self.assertEqual(spoilt_by("12", "1", "plain", 11, rounds=1), (0,))
        self.assertEqual(spoilt_by("12", "1", "plain", 12, rounds=1), ())
        self.assertEqual(spoilt_by("12", "1", "plain", 11, rounds=2), (0, 1))
        self.assertEqual(spoilt_by("12", "1", "plain", 5, rounds=2), (0, 1))
        self.assertEqual(spoilt_by("12", "1", "shy", 0, rounds=2), ())
        self.assertEqual(spoilt_by("12", "1", "shy", -1, rounds=2), (0,))

    def test_edges_of_windows(self):
        # Both strokes of 1, six ticks apart, beside the windows -5 to 11 and 7 to 23 of 12.
        for at, expected in ((-12, ()), (-11, (0,)), (-7, (0,)), (0, ()), (1, (0, 1)), (6, ()), (7, (0, 1)), (12, ()),
                             (13, (1,)), (16, (1,)), (17, (1,)), (18, ()), (23, (1,)), (24, ())):
            self.assertEqual(spoilt_by("12", "1", "plain", at, rounds=2), expected, at)
        self.assertEqual(spoilt_by("1", "9951", "plain", 5, rounds=2), (0, 1))
        self.assertEqual(spoilt_by("1", "9951", "plain", 11, rounds=2), (1,))
        self.assertEqual(spoilt_by("1", "9951", "plain", 12, rounds=2), ())

    def test_beside_plain_reckoning(self):
        chance = random.Random(641)
        counts = set()
        for _ in range(600):
            pool = chance.choice((SHORT, plain.ALL_NUMBERS))
            number, other = chance.sample(pool, 2)
            sort, rounds = chance.choice(SORTS), chance.choice((1, 2, 3, 8))
            length = len(plain.row(other))
            low = 1 - length if sort == "shy" else -rounds * length - 10
            high = 0 if sort == "shy" else rounds * len(plain.row(number)) + 10
            for at in {low, high, chance.randint(low, high), chance.randint(low, high)}:
                found = spoilt_by(number, other, sort, at, rounds=rounds)
                self.assertEqual(found, played.spoilt(number, other, sort, at, rounds))
                self.assertIs(type(found), tuple)
                counts.add((sort, len(found)))
        self.assertGreater(len(counts), 8)

    def test_played(self):
        """One pull on a line: just the told rounds are not read."""
        chance = random.Random(642)
        for _ in range(150):
            number, other = chance.sample(SHORT, 2)
            sort, rounds = chance.choice(SORTS), chance.randint(1, 4)
            high = 0 if sort == "shy" else rounds * len(plain.row(number)) + 6
            at = chance.randint(1 - len(plain.row(other)), high)
            result = played.Played([(other, sort)], number, "plain", [(at, other)], rounds)
            read = result.read(number, "plain", rounds)
            expected = tuple(index for index in range(rounds) if index not in read)
            self.assertEqual(spoilt_by(number, other, sort, at, rounds=rounds), expected)

    def test_far_away(self):
        begun = time.monotonic()
        for at in (10 ** 39, -10 ** 39, 12 * 10 ** 38, -10 ** 30):
            self.assertEqual(spoilt_by("12", "6666", "plain", at, rounds=8), ())
        self.assertLess(time.monotonic() - begun, 1)

    def test_errors(self):
        names = ("number", "sort", "other", "rounds", "at")
        at = plain.ANY_OBJECTS + ("0", "at")
        self.check_words(spoilt_by, names, {**WRONG, "at": at}, {**GOOD, "at": 10 ** 39})
        shy = {**GOOD, "sort": "shy", "at": -9}
        self.check_words(spoilt_by, names, {**WRONG, "at": at + (1, -10, 10 ** 39, -10 ** 39)}, shy)
        for edge in (0, -9):
            spoilt_by("12", "3", "shy", edge, rounds=1)


class StaysTest(Checks, unittest.TestCase):
    def test_known_offsets(self):
        # 12 has the strokes 0, 4, 6; 11 the strokes 0 and 4.
        self.assertEqual(stays("12", "11", 0, rounds=1), 6)
        self.assertEqual(stays("12", "11", -1, rounds=1), 0)
        # At -9 its last tick is that of offset 0, at which it is broken; a box is not pulled at -10.
        self.assertEqual(stays("12", "11", -9, rounds=1), 0)
        self.assertEqual(stays("12", "3", -4, rounds=1), 4)
        # All strokes of the called box are strokes of its own, so it sends its round whole.
        self.assertEqual(stays("1", "9951", 0, rounds=1), 58)
        self.assertEqual(stays("1", "111", 0, rounds=1), 14)

    def test_beside_plain_reckoning(self):
        chance = random.Random(643)
        whole = 0
        for _ in range(600):
            number, other = chance.sample(chance.choice((SHORT, plain.ALL_NUMBERS)), 2)
            rounds = chance.choice((1, 2, 8))
            length = len(plain.row(other))
            for at in (0, 1 - length, chance.randint(1 - length, 0)):
                end = played.shy_end(number, other, at, rounds)
                self.assertEqual(stays(number, other, at, rounds=rounds), end)
                whole += end == at + length
        self.assertGreater(whole, 5)

    def test_errors(self):
        at = plain.ANY_OBJECTS + (1, -10, 10 ** 39, -10 ** 39, "0")
        self.check_words(stays, ("number", "other", "rounds", "at"), {**WRONG, "at": at}, {**GOOD, "at": -9})


class MostSpoiltTest(Checks, unittest.TestCase):
    def test_known_counts(self):
        self.assertEqual(most_spoilt("12", "3", "plain", rounds=1), (2, 11))
        self.assertEqual(most_spoilt("1", "9951", "plain", rounds=8), (8 * 58 // 6 + 2, 5))
        self.assertEqual(most_spoilt("12", "1", "shy", rounds=8), (1, -1))

    def test_beside_plain_reckoning(self):
        chance = random.Random(651)
        counts = set()
        for _ in range(120):
            number, other = chance.sample(chance.choice((SHORT, plain.ALL_NUMBERS)), 2)
            sort, rounds = chance.choice(SORTS), chance.choice((1, 2, 8))
            found = most_spoilt(number, other, sort, rounds=rounds)
            self.assertEqual(found, played.most_spoilt(number, other, sort, rounds))
            self.assertIs(type(found), tuple)
            counts.add((sort, found[0]))
        self.assertGreater(len([count for sort, count in counts if sort == "shy"]), 1)

    def test_no_pull_of_a_plain_box_spoils_more(self):
        chance = random.Random(652)
        for _ in range(25):
            number, other = chance.sample(SHORT, 2)
            rounds = chance.randint(1, 8)
            count, at = most_spoilt(number, other, "plain", rounds=rounds)
            self.assertEqual(spoilt_by(number, other, "plain", at, rounds=rounds), tuple(range(min(count, rounds))))
            for start in range(-rounds * len(plain.row(other)), rounds * len(plain.row(number))):
                self.assertLessEqual(len(spoilt_by(number, other, "plain", start, rounds=rounds)), count)

    def test_shy_pulls_that_spoil_several_rounds(self):
        found = {}
        for other in plain.some_numbers(653, 400):
            if other != "1":
                found.setdefault(most_spoilt("1", other, "shy", rounds=8)[0], other)
        self.assertTrue({3, 5, 8} <= set(found))
        for count, other in found.items():
            self.assertEqual(most_spoilt("1", other, "shy", rounds=8), played.most_spoilt("1", other, "shy", 8))

    def test_errors(self):
        self.check_words(most_spoilt, ("number", "sort", "other", "rounds"), WRONG, GOOD)


class TableTest(Checks, unittest.TestCase):
    def test_tables(self):
        chance = random.Random(661)
        for many in (0, 1, 5, 29):
            for rounds in (1, 3, 8):
                boxes = [list(box) for box in some_boxes(chance, many, MANY and [name for name, _ in MANY])]
                kept = [list(box) for box in boxes]
                table = spoil_table("12", boxes, rounds=rounds)
                expected = tuple(
                    (other, sort) + played.most_spoilt("12", other, sort, rounds) for other, sort in boxes
                )
                self.assertEqual(table, expected)
                self.assertIs(type(table), tuple)
                self.assertEqual(boxes, kept)

    def test_errors(self):
        self.check_words(spoil_table, ("number", "boxes", "rounds"), WRONG, GOOD)


class FewestTest(Checks, unittest.TestCase):
    def test_beside_plain_reckoning(self):
        chance = random.Random(662)
        told = set()
        for _ in range(1500):
            table = [
                chance.choice((list, tuple))((None, chance.choice(SORTS), chance.choice((1, 1, 2, 3, 7, 8)), []))
                for _ in range(chance.choice((0, 1, 1, 2, 4)))
            ]
            rounds = chance.randint(1, 8)
            hear = chance.randint(1, min(2, rounds))
            for rows in (table, tuple(table)):
                found = fewest(rows, rounds=rounds, hear=hear)
                self.assertEqual(found, played.fewest(table, rounds, hear))
            told.add((hear, found))
        self.assertTrue({(1, None), (1, 1), (1, 8), (2, None), (2, 1), (2, 4)} <= told)

    def test_known(self):
        plain_row, shy_row = ("3", "plain", 2, 11), ("4", "shy", 3, -1)
        self.assertIsNone(fewest((), rounds=1))
        self.assertEqual(fewest((plain_row,), rounds=5), 3)
        self.assertEqual(fewest((plain_row,), rounds=5, hear=2), 2)
        self.assertEqual(fewest((shy_row,), rounds=3), 1)
        self.assertIsNone(fewest((shy_row,), rounds=4))
        self.assertEqual(fewest((shy_row,), rounds=4, hear=2), 1)
        self.assertIsNone(fewest((shy_row,), rounds=5, hear=2))
        self.assertEqual(fewest((shy_row, plain_row), rounds=5), 2)
        self.assertEqual(fewest((plain_row, shy_row), rounds=6), 3)
        self.assertEqual(fewest((("3", "plain", 10 ** 39, 0),), rounds=8), 1)

    def test_errors(self):
        row = ("3", "plain", 2, 11)
        wrong = tuple(thing for thing in plain.ANY_OBJECTS if thing not in ((), [])) + plain.WHOLE_NUMBERS + (
            (row, row[:3]), (row + (1,),), ("3pla",), (("3", "Plain", 2, 11),), (("3", None, 2, 11),), {"row": row},
            (("3", "plain", 0, 11),), (("3", "plain", True, 11),), (("3", "plain", "2", 11),), row,
            (("3", "plain", None, 11),), (row, None), (("3", ["plain"], 2, 11),), (("plain", "3", 2, 11),),
        )
        self.check_words(fewest, ("table", "rounds", "hear"), {**WRONG, "table": wrong}, {**GOOD, "table": (row,)})
        self.check_word("hear", fewest, {"table": (), "rounds": 1, "hear": 2})


if __name__ == "__main__":
    unittest.main()

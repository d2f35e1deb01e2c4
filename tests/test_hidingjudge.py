"""[6.9] and the heading hidingjudge.py."""

import random
import time
import unittest

from tests import plain, played
from tests.papers import some_boxes
from tests.test_spoils import GOOD, SHORT, WRONG, Checks
from wheelchorus.hidingjudge import hiding_fault

BOXES = [("3", "plain"), ("1", "plain"), ("2", "shy"), ("11", "shy")]


class HidingFaultTest(Checks, unittest.TestCase):
    def check(self, sort, pulls, fault, rounds=3, hear=1, number="12", boxes=BOXES):
        kept = list(pulls)
        self.assertEqual(hiding_fault(boxes, number, sort, pulls, rounds=rounds, hear=hear), fault)
        self.assertEqual(list(pulls), kept)

    def test_no_pulls(self):
        for sort in ("plain", "shy"):
            for rounds, hear in ((1, 1), (8, 1), (2, 2), (8, 2)):
                self.check(sort, (), ("round", 0), rounds, hear)
                self.check(sort, [], ("round", 0), rounds, hear, boxes=())

    def test_known_plain(self):
        # The row of 12 is 12 ticks long, that of 3 ten; three of them spoil the rounds 0 to 2 or more.
        self.check("plain", [(11, "3")], None)
        self.check("plain", [(11, "3")], None, 4)
        self.check("plain", [(11, "3")], None, 8)
        self.check("plain", [(11, "1")], ("round", 5), 8)
        self.check("plain", [(12, "1")], ("round", 0), 3)
        # The last tick of the last window, and the one behind it.
        self.check("plain", [(11, "1")], None, 1)
        self.check("plain", [(12, "1")], ("round", 0), 1)
        self.check("plain", [(23, "3")], ("round", 0), 3)
        self.check("plain", [(23, "3")], None, 3, 2)
        self.check("plain", [(35, "1")], ("round", 0), 3, 2)
        self.check("plain", [(-6, "1")], ("round", 0), 3)
        self.check("plain", [(-5, "1")], ("round", 2), 3)
        self.check("plain", [(-1, "2")], ("round", 1), 3)

    def test_known_shy(self):
        self.check("shy", [(1, "2")], None, 3, 2)
        self.check("shy", [(1, "2")], ("round", 0), 3, 1)
        self.check("shy", [(11, "3")], ("round", 0), 3, 2)
        self.check("shy", [(12, "3")], ("round", 1), 3, 2)
        self.check("shy", [(12, "3")], None, 2, 2)

    def test_wrong_pulls_of_the_list_come_first(self):
        for name in ("4", "12", "", "0", "no number"):
            self.check("plain", [(0, name)], ("pull", 0))
            # The second pull of 3 is not taken, and a round is read, but this comes ahead of both.
            self.check("plain", [(30, "3"), (31, "3"), (32, name)], ("pull", 2))
        self.check("plain", [(5, "1"), (4, "3")], ("pull", 1))
        self.check("plain", [(5, "1"), (5, "3"), (4, "2"), (3, "9")], ("pull", 2))
        self.check("plain", [(-500, "3"), (8000, "1")], ("round", 0))
        for offset in (0, -1, -500):
            self.check("shy", [(offset, "3")], ("pull", 0))
            self.check("shy", [(1, "2"), (offset, "3")], ("pull", 1))
        self.check("shy", [(1, "3"), (1, "1"), (0, "2")], ("pull", 2))
        self.check("shy", [(1, "9"), (0, "3")], ("pull", 0))

    def test_pulls_that_are_not_taken(self):
        self.check("plain", [(11, "3"), (11, "3")], ("pull", 1))
        # Its three rounds end with the tick 40, so that it can be pulled again at 41.
        self.check("plain", [(11, "3"), (40, "3")], ("pull", 1))
        self.check("plain", [(11, "3"), (41, "3")], None)
        # It comes ahead of a round that is read, also of one that was read before.
        self.check("plain", [(100, "3"), (101, "3")], ("pull", 1))
        self.check("plain", [(100, "3"), (101, "1"), (102, "1"), (103, "3")], ("pull", 2))
        # A shy box that has stepped back has its rounds still to send.
        self.check("plain", [(-3, "2"), (20, "2")], ("pull", 1))

    def test_rounds_behind_which_the_wire_is_broken(self):
        """With hear 2 two whole rounds of a shy box count if nothing was broken between them."""
        for at in range(1, 60):
            pulls = [(at, "1")]
            result = played.Played(BOXES, "12", "shy", pulls, 2)
            low, high = (end for end in result.called_ends)
            broken = result.broken & set(range(low + 1, high - 11))
            self.check("shy", pulls, None if broken else ("round", 0), 2, 2)

    def test_beside_plain_reckoning(self):
        chance = random.Random(691)
        told = {}
        for _ in range(500):
            pool = chance.choice((SHORT[:15], SHORT))
            boxes = some_boxes(chance, chance.randint(1, 5), pool)
            number, sort = boxes[0]
            names = [name for name, _ in boxes] if chance.random() < 0.1 else [name for name, _ in boxes[1:]]
            rounds = chance.choice((1, 2, 2, 3, 4))
            hear = chance.randint(1, min(2, rounds))
            low = 1 if sort == "shy" and chance.random() < 0.9 else -40
            many = chance.randint(0, 4) if names else 0
            high = max(low, rounds * (len(plain.row(number)) + 14 * (sort == "shy")))
            offsets = chance.choices(range(low, high + 1), k=many)
            if chance.random() < 0.95:
                offsets.sort()
            pulls = [chance.choice((list, tuple))((at, chance.choice(names))) for at in offsets]
            expected = played.hiding_fault(boxes[1:], number, sort, pulls, rounds, hear)
            for things in (pulls, tuple(pulls)):
                found = hiding_fault(boxes[1:], number, sort, things, rounds=rounds, hear=hear)
                self.assertEqual(found, expected)
            key = (sort, hear, None if expected is None else expected[0])
            told[key] = told.get(key, 0) + 1
        for sort in ("plain", "shy"):
            for hear in (1, 2):
                self.assertGreater(told[sort, hear, "pull"], 5)
                self.assertGreater(told[sort, hear, "round"], 5)
        self.assertGreater(told["plain", 1, None], 5)
        self.assertGreater(told["plain", 2, None], 5)
        self.assertGreater(told["shy", 2, None], 5)
        self.assertNotIn(("shy", 1, None), told)

    def test_long_plays(self):
        begun = time.monotonic()
        names = [name for name in plain.some_numbers(692, 10) if name != "12"][:9]
        boxes = [(name, "plain" if k % 3 else "shy") for k, name in enumerate(names)]
        for sort, start, hear in (("plain", -500, 1), ("shy", 1, 2)):
            pulls = [(start, names[0])] + [(500 * k, names[k % 9]) for k in range(1, 15)] + [(8000, names[8])]
            self.assertEqual(len(pulls), 16)
            found = hiding_fault(boxes, "12", sort, pulls, rounds=8, hear=hear)
            self.assertEqual(found, played.hiding_fault(boxes, "12", sort, pulls, 8, hear))
        many = boxes + [(name, "plain") for name in plain.some_numbers(693, 40) if name not in names + ["12"]][:20]
        self.assertEqual(len(many), 29)
        self.assertIsNotNone(hiding_fault(many, "12", "plain", [(8000, many[-1][0])], rounds=8))
        self.assertLess(time.monotonic() - begun, 20)

    def test_errors(self):
        def call(number, sort, boxes, rounds, hear, pulls):
            return hiding_fault(boxes, number, sort, pulls, rounds=rounds, hear=hear)
        pull = (0, "3")
        wrong = tuple(thing for thing in plain.ANY_OBJECTS if thing not in ((), [])) + plain.WHOLE_NUMBERS + (
            [pull] * 17, [(0,)], [(0, "3", 1)], [("3", 0)], [(-501, "3")], [(8001, "3")], [(True, "3")], [(0, 3)],
            [(0, None)], [pull, None], [("0", "3")], pull, "pulls", [(0, ("3",))], [{0: "3"}], [(None, "3")], ["03"],
            [(10 ** 39, "3")], [(0, ["3"])], {pull: pull},
        )
        names = ("number", "sort", "boxes", "rounds", "hear", "pulls")
        self.check_words(call, names, {**WRONG, "pulls": wrong}, {**GOOD, "pulls": ()})
        # Objects of the wrong kind come ahead of pulls that are wrong in the list.
        values = {**{name: GOOD[name] for name in names[:-1]}, "pulls": [(5, "9"), (0, "3"), (0, 3)]}
        self.check_word("pulls", call, values)
        self.assertEqual(call(**{**values, "pulls": [pull] * 16}), ("pull", 1))
        self.assertEqual(call(**{**values, "pulls": [(-500, "9"), (8000, "")]}), ("pull", 0))


if __name__ == "__main__":
    unittest.main()

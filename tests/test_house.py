"""[7.6], [7.10] to [7.12] and the heading house.py."""

import itertools
import random
import unittest

from tests import plain
from tests.rings import all_faults, no_faults, reached, ring_texts, some_faults, some_ring
from wheelchorus.errors import BadFault, BadHouse
from wheelchorus.house import House, false_levels, guarded_ring
from wheelchorus.panel import Panel
from wheelchorus.ring import Ring

GREAT = 10 ** 39


def made(text, need=1, mark=5, rows=3):
    return House("12", text, mark=mark, rows=rows, need=need)


class HouseTest(unittest.TestCase):
    def test_attributes(self):
        house = House("24", "sosos", mark=-7, rows=8, need=3)
        told = (house.box, house.ring, house.mark, house.rows, house.need, house.seekers, house.layout)
        self.assertEqual(told, ("24", "sosos", -7, 8, 3, 3, Ring("sosos")))
        self.assertIs(type(house.layout), Ring)
        self.assertIs(type(house.ring), str)
        self.assertEqual(House("1", "s", mark=0, rows=1).need, 1)
        self.assertEqual(House("1", "s", mark=-GREAT, rows=1).mark, -GREAT)

    WRONG = {
        "box": plain.ANY_OBJECTS + ("889", 24, ("24",)),
        "ring": plain.ANY_OBJECTS + ("o", "s" * 11, "S", 1, Ring("sos"), ["s"]),
        "mark": plain.ANY_OBJECTS + ("5",),
        "rows": plain.ANY_OBJECTS + (0, 9, -1, GREAT, "1"),
        "need": plain.ANY_OBJECTS + (0, 4, -1, GREAT, "1"),
    }
    GOOD = {"box": "24", "ring": "sosos", "mark": 5, "rows": 3, "need": 2}

    def test_bad_houses(self):
        chance = random.Random(761)
        names = list(self.GOOD)
        for at, one in enumerate(names):
            for thing in self.WRONG[one]:
                for other in [None] + names[at + 1:]:
                    values = {**self.GOOD, one: thing}
                    if other is not None:
                        values[other] = chance.choice(self.WRONG[other])
                    with self.assertRaises(BadHouse) as caught:
                        House(values["box"], values["ring"], mark=values["mark"], rows=values["rows"],
                              need=values["need"])
                    self.assertEqual(caught.exception.what, one)

    def test_equality(self):
        house = House(**self.GOOD)
        self.assertTrue(house == House(**self.GOOD))
        self.assertFalse(house != House(**self.GOOD))
        for name, other in (("box", "42"), ("ring", "sosso"), ("mark", 6), ("rows", 2), ("need", 1)):
            self.assertFalse(house == House(**{**self.GOOD, name: other}))
        for thing in (None, "24", Ring("sosos"), list(self.GOOD.values())):
            self.assertFalse(house == thing)
            self.assertTrue(house != thing)

    def test_with_rules(self):
        house = House(**self.GOOD)
        others = {"ring": "ssos", "mark": -GREAT, "rows": 8, "need": 3}
        for many in range(5):
            for names in itertools.combinations(others, many):
                more = {name: others[name] for name in names}
                found = house.with_rules(**more)
                self.assertEqual(found, House(**{**self.GOOD, **more}))
                self.assertEqual(found.layout, Ring(found.ring))
                self.assertIsNot(found, house)
        self.assertEqual(house, House(**self.GOOD))
        self.assertEqual(house.with_rules(ring=None, mark=0, rows=None, need=None).mark, 0)

    def test_with_bad_rules(self):
        house = House(**self.GOOD)
        chance = random.Random(762)
        names = ["ring", "mark", "rows", "need"]
        for at, one in enumerate(names):
            for thing in self.WRONG[one]:
                if thing is None:
                    continue
                for other in [None] + names[at + 1:]:
                    values = {one: thing}
                    if other is not None:
                        values[other] = chance.choice(self.WRONG[other])
                    with self.assertRaises(BadHouse) as caught:
                        house.with_rules(**values)
                    self.assertEqual(caught.exception.what, one)
        # A ring with too few seekers for the need that stays.
        with self.assertRaises(BadHouse) as caught:
            house.with_rules(ring="so")
        self.assertEqual(caught.exception.what, "need")


class SilenceTest(unittest.TestCase):
    def lots(self, text, need):
        """All least sets of faults by trying all sets, of up to three or of all faults of a small ring."""
        faults = all_faults(text)
        silent = []
        for many in range(len(faults) + 1 if len(faults) <= 6 else 4):
            for lot in itertools.combinations(faults, many):
                if len(reached(text, lot)) < need and not any(set(other) < set(lot) for other in silent):
                    silent.append(lot)
        return tuple(silent)

    def test_all_small_rings(self):
        for text in ring_texts(4):
            for need in range(1, text.count("s") + 1):
                house = made(text, need)
                lots = self.lots(text, need)
                self.assertEqual(house.least_lots(), lots)
                self.assertIs(type(house.least_lots()), tuple)
                self.assertLessEqual(max(map(len, lots)), 2)
                singles = tuple(lot[0] for lot in lots if len(lot) == 1)
                self.assertEqual(house.silent_faults(), singles)
                self.assertIs(type(house.silent_faults()), tuple)

    def test_great_rings(self):
        for text in ("ssssssssss", "sosososos", "oossoossoo", "ooooooooos"):
            for need in {1, text.count("s")}:
                self.assertEqual(made(text, need).least_lots(), self.lots(text, need))

    def test_is_silent(self):
        chance = random.Random(7101)
        for _ in range(200):
            text = some_ring(chance)
            need = chance.randint(1, text.count("s"))
            faults = some_faults(chance, text)
            self.assertIs(made(text, need).is_silent(*faults), len(reached(text, faults)) < need)
            self.assertIs(made(text, need).is_silent(*faults, *faults), len(reached(text, faults)) < need)
            self.assertIs(made(text, need).is_silent(), False)

    def test_known_lots(self):
        self.assertEqual(made("s").least_lots(), ((("short", 0),), (("short", 1),), (("cut", 0), ("cut", 1))))
        self.assertEqual(made("sos", 2).silent_faults(), (("short", 0), ("short", 1), ("short", 2), ("short", 3)))
        self.assertEqual(made("sos", 1).silent_faults(), ())

    def test_bad_faults(self):
        house = made("sos")
        for thing in no_faults("sos"):
            for faults in ((thing,), (("cut", 0), thing, None), (("short", 0), ("short", 0), thing, thing)):
                with self.assertRaises(BadFault) as caught:
                    house.is_silent(*faults)
                self.assertIs(caught.exception.fault, thing)


class FalseLevelsTest(unittest.TestCase):
    def test_beside_plain_reckoning(self):
        chance = random.Random(7111)
        for _ in range(200):
            text = some_ring(chance)
            need, mark, rows = chance.randint(1, text.count("s")), chance.choice((0, -3, GREAT)), chance.randint(1, 8)
            house = made(text, need, mark, rows)
            faults = some_faults(chance, text, 2)
            heard = reached(text, faults)
            for things in (faults, tuple(faults)):
                levels = false_levels(house, things)
                if len(heard) < need:
                    self.assertIsNone(levels)
                    continue
                row = tuple(mark + (seeker in heard[:need]) for seeker in range(text.count("s")))
                self.assertEqual(levels, (row,) * rows)
                panel = Panel(house)
                for fault in faults:
                    panel.put_fault(fault)
                self.assertEqual([panel.beat(row) for row in levels], [False] * (rows - 1) + [True])

    def test_defaults_and_edges(self):
        self.assertEqual(false_levels(made("soss", 2, 7, 3)), ((8, 8, 7),) * 3)
        self.assertEqual(false_levels(made("soss", 2, 7, 1), [("short", 0)]), ((7, 8, 8),))
        self.assertEqual(false_levels(made("sss", 3, -1, 8)), ((0, 0, 0),) * 8)
        self.assertIsNone(false_levels(made("sss", 3), (("short", 2),)))

    def test_fewer_levels_never_warn(self):
        """Fewer than rows * need levels above the mark, in a few ticks, put anywhere."""
        for text, need, rows in (("ss", 1, 2), ("ss", 2, 2), ("sos", 2, 1), ("s", 1, 3)):
            house = made(text, need, 0, rows)
            seekers = text.count("s")
            cells = [(tick, seeker) for tick in range(4) for seeker in range(seekers)]
            for high in itertools.combinations(cells, rows * need - 1):
                for faults in ((), (("cut", 1),), (("short", 0),)):
                    panel = Panel(house)
                    for fault in faults:
                        panel.put_fault(fault)
                    beats = [[int((tick, seeker) in high) for seeker in range(seekers)] for tick in range(4)]
                    self.assertNotIn(True, [panel.beat(levels) for levels in beats])

    def test_bad_faults(self):
        for thing in no_faults("sos"):
            with self.assertRaises(BadFault) as caught:
                false_levels(made("sos"), [("cut", 0), thing])
            self.assertIs(caught.exception.fault, thing)


class GuardedRingTest(unittest.TestCase):
    def guards(self, text, need):
        return all(len(reached(text, [fault])) >= need for fault in all_faults(text))

    def expected(self, seekers, need):
        spare = seekers - need
        if spare == 0:
            return None
        zones = []
        left = seekers
        while left:
            zones.append("s" * min(spare, left))
            left -= len(zones[-1])
        text = "o".join(zones)
        return text if len(text) <= 10 else None

    def test_all(self):
        refused = 0
        for seekers in range(1, 11):
            for need in range(1, seekers + 1):
                text = guarded_ring(seekers, need)
                self.assertEqual(text, self.expected(seekers, need))
                if text is None:
                    refused += need < seekers
                    continue
                self.assertEqual(Ring(text).seekers, seekers)
                self.assertTrue(self.guards(text, need))
        self.assertGreater(refused, 0)
        self.assertEqual(guarded_ring(2, 1), "sos")
        self.assertEqual(guarded_ring(7, 4), "sssosssos")
        self.assertEqual(guarded_ring(9, 1), "ssssssssos")
        self.assertIsNone(guarded_ring(10, 1))
        self.assertIsNone(guarded_ring(3, 3))

    def test_as_few_openers_as_can_be(self):
        for text in ring_texts(6):
            for need in range(1, text.count("s") + 1):
                if self.guards(text, need):
                    best = guarded_ring(text.count("s"), need)
                    self.assertLessEqual(best.count("o"), text.count("o"))

    def test_errors(self):
        wrong = plain.ANY_OBJECTS + (0, -1, 11, GREAT, "3")
        for thing in wrong:
            for need in wrong + (1,):
                with self.assertRaises(BadHouse) as caught:
                    guarded_ring(thing, need)
                self.assertEqual(caught.exception.what, "seekers")
        for thing in plain.ANY_OBJECTS + (0, -1, 4, GREAT):
            with self.assertRaises(BadHouse) as caught:
                guarded_ring(3, thing)
            self.assertEqual(caught.exception.what, "need")


if __name__ == "__main__":
    unittest.main()

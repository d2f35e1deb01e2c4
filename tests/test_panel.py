"""[7.7] to [7.9] and the heading panel.py."""

import random
import unittest

from tests import plain
from tests.rings import PlainPanel, all_faults, no_faults, panel_told, some_faults, some_ring
from wheelchorus.errors import BadFault, BadLevels, NoFault
from wheelchorus.house import House
from wheelchorus.panel import Panel, first_warning, tried

GREAT = 10 ** 39


def some_house(chance):
    text = some_ring(chance, chance.choice((2, 5, 10)))
    return House("12", text, mark=chance.choice((0, 5, -GREAT, GREAT)), rows=chance.choice((1, 2, 3, 8)),
                 need=chance.choice((1, chance.randint(1, text.count("s")), text.count("s"))))


def model_of(house):
    return PlainPanel(house.ring, house.mark, house.rows, house.need)


def some_levels(chance, house):
    above = chance.choice((0.2, 0.9, 0.97))
    levels = [house.mark + (1 if chance.random() < above else chance.choice((0, -1, -GREAT)))
              for _ in range(house.seekers)]
    return levels if chance.random() < 0.5 else tuple(levels)


class PanelTest(unittest.TestCase):
    def test_new_panel(self):
        house = House("24", "sos", mark=5, rows=2, need=2)
        panel = Panel(house)
        self.assertEqual(panel.house, house)
        self.assertEqual(panel_told(panel), ((), (0, 1), (0, 0), False))
        self.assertIs(panel.alarmed, False)
        for thing in panel_told(panel)[:3]:
            self.assertIs(type(thing), tuple)

    def test_beside_plain_model(self):
        chance = random.Random(771)
        warned = mended = 0
        for _ in range(150):
            house = some_house(chance)
            panel, model = Panel(house), model_of(house)
            for _ in range(60):
                kind = chance.random()
                if kind < 0.8:
                    levels = some_levels(chance, house)
                    kept = list(levels)
                    found = panel.beat(levels)
                    self.assertIs(found, model.beat(levels))
                    self.assertEqual(list(levels), kept)
                    warned += found
                elif kind < 0.88:
                    fault = chance.choice(all_faults(house.ring))
                    model.faults.add(fault)
                    self.assertIsNone(panel.put_fault(fault))
                elif kind < 0.96 and model.faults:
                    fault = chance.choice(sorted(model.faults))
                    model.faults.remove(fault)
                    self.assertIsNone(panel.mend_fault(fault))
                    mended += 1
                elif kind > 0.97:
                    model.reset()
                    self.assertIsNone(panel.reset())
                self.assertEqual(panel_told(panel), model.told())
                self.assertIs(type(panel.alarmed), bool)
        self.assertGreater(warned, 100)
        self.assertGreater(mended, 100)

    def test_known_beats(self):
        panel = Panel(House("24", "ss", mark=5, rows=2))
        self.assertEqual([panel.beat(levels) for levels in ([6, 5], [5, 6], [5, 6], [9, 9], [6, 0], [5, 5], [6, 6])],
                         [False, False, True, False, False, False, False])
        self.assertEqual((panel.counts, panel.alarmed), ((1, 1), False))
        self.assertIs(panel.beat((6, 6)), True)
        self.assertIs(panel.beat((6, 6)), False)
        self.assertEqual((panel.counts, panel.alarmed), ((3, 3), True))
        panel.reset()
        self.assertEqual((panel.counts, panel.alarmed), ((0, 0), False))

    def test_levels_at_the_mark_and_one_above(self):
        for mark in (0, -1, GREAT, -GREAT):
            panel = Panel(House("24", "s", mark=mark, rows=1))
            self.assertEqual([panel.beat([level]) for level in (mark - 1, mark, mark + 1)], [False, False, True])

    def test_need_all_and_rows_8(self):
        panel = Panel(House("24", "sosos", mark=0, rows=8, need=3))
        self.assertEqual([panel.beat((1, 1, 1)) for _ in range(10)], [False] * 7 + [True, False, False])
        self.assertIs(panel.beat((1, 1, 0)), False)
        self.assertIs(panel.alarmed, False)

    def test_faults(self):
        panel = Panel(House("24", "sosos", mark=0, rows=1, need=2))
        panel.put_fault(("short", 3))
        panel.put_fault(("cut", 0))
        panel.put_fault(("short", 3))
        self.assertEqual((panel.faults, panel.heard), ((("cut", 0), ("short", 3)), (2,)))
        self.assertIs(panel.beat((1, 1, 1)), False)
        self.assertEqual((panel.counts, panel.alarmed), ((0, 0, 1), False))
        panel.mend_fault(("short", 3))
        self.assertEqual((panel.faults, panel.heard, panel.counts), ((("cut", 0),), (0, 1, 2), (0, 0, 1)))
        panel.put_fault(("cut", 1))
        panel.reset()
        self.assertEqual(panel.faults, (("cut", 0), ("cut", 1)))

    def test_a_panel_has_nothing_in_common_with_another(self):
        house = House("24", "sos", mark=0, rows=3)
        one, other = Panel(house), Panel(house)
        one.put_fault(("cut", 0))
        one.beat([1, 1])
        self.assertEqual(panel_told(other), ((), (0, 1), (0, 0), False))
        tried(one, [("short", 1)], [[1, 1]])
        self.assertEqual(panel_told(other), ((), (0, 1), (0, 0), False))

    def busy(self):
        """A panel with a fault, counts and an alarm."""
        panel = Panel(House("24", "sos", mark=0, rows=1, need=1))
        panel.put_fault(("cut", 1))
        panel.beat([1, 1])
        return panel

    def check_unchanged(self, call, error, **attributes):
        panel = self.busy()
        before = panel_told(panel)
        with self.assertRaises(error) as caught:
            call(panel)
        for name, worth in attributes.items():
            self.assertEqual(getattr(caught.exception, name), worth)
        self.assertEqual(panel_told(panel), before)
        return caught.exception

    def test_bad_faults_and_no_fault(self):
        for thing in no_faults("sos"):
            for call in (lambda panel: panel.put_fault(thing), lambda panel: panel.mend_fault(thing)):
                self.assertIs(self.check_unchanged(call, BadFault).fault, thing)
        for fault in all_faults("sos"):
            if fault != ("cut", 1):
                self.check_unchanged(lambda panel: panel.mend_fault(fault), NoFault, fault=fault)

    def test_bad_levels(self):
        for levels in ([], (), [1], (1, 1, 1), [None], [None] * 3, [[]] * 10):
            self.check_unchanged(lambda panel: panel.beat(levels), BadLevels, what="length", at=len(levels))
        for thing in plain.ANY_OBJECTS + ("1", (1,)):
            self.check_unchanged(lambda panel: panel.beat([thing, 1]), BadLevels, what="level", at=0)
            self.check_unchanged(lambda panel: panel.beat((1, thing)), BadLevels, what="level", at=1)
            self.check_unchanged(lambda panel: panel.beat([thing, None]), BadLevels, what="level", at=0)


class TriedTest(unittest.TestCase):
    def test_beside_plain_model(self):
        chance = random.Random(791)
        for _ in range(100):
            house = some_house(chance)
            panel, model = Panel(house), model_of(house)
            for fault in some_faults(chance, house.ring, 1):
                panel.put_fault(fault)
                model.faults.add(fault)
            for _ in range(chance.randint(0, 4)):
                levels = some_levels(chance, house)
                panel.beat(levels)
                model.beat(levels)
            before = panel_told(panel)
            faults = chance.choice((list, tuple))(some_faults(chance, house.ring, 2))
            beats = chance.choice((list, tuple))([some_levels(chance, house) for _ in range(chance.randint(0, 12))])
            model.faults |= set(faults)
            expected = tuple(model.beat(levels) for levels in beats)
            found = tried(panel, faults, beats)
            self.assertEqual(found, expected)
            self.assertIs(type(found), tuple)
            self.assertEqual(panel_told(panel), before)
            # A second trial begins as the first one did.
            self.assertEqual(tried(panel, faults, beats), expected)

    def test_errors_leave_the_panel(self):
        panel = Panel(House("24", "sos", mark=0, rows=2))
        panel.put_fault(("cut", 1))
        panel.beat([1, 1])
        before = panel_told(panel)
        for thing in no_faults("sos"):
            with self.assertRaises(BadFault) as caught:
                tried(panel, [("short", 0), thing], [[None]])
            self.assertIs(caught.exception.fault, thing)
            self.assertEqual(panel_told(panel), before)
        for beats, what, at in (([[1, 1], [1]], "length", 1), ([[1, 1], [1, None], []], "level", 1)):
            with self.assertRaises(BadLevels) as caught:
                tried(panel, [("short", 0)], beats)
            self.assertEqual((caught.exception.what, caught.exception.at), (what, at))
            self.assertEqual(panel_told(panel), before)


class FirstWarningTest(unittest.TestCase):
    def test_beside_plain_model(self):
        chance = random.Random(792)
        told = set()
        for _ in range(200):
            house = some_house(chance)
            faults = some_faults(chance, house.ring, 2)
            beats = [some_levels(chance, house) for _ in range(chance.randint(0, 15))]
            model = model_of(house)
            model.faults |= set(faults)
            expected = next((index for index, levels in enumerate(beats) if model.beat(levels)), None)
            found = first_warning(house, chance.choice((list, tuple))(beats), chance.choice((list, tuple))(faults))
            self.assertEqual(found, expected)
            told.add(found)
        self.assertTrue({None, 0, 1} <= told)

    def test_rows_behind_the_warning_are_not_looked_at(self):
        house = House("24", "s", mark=0, rows=2)
        self.assertEqual(first_warning(house, [[1], [1], [None], []]), 1)
        self.assertIsNone(first_warning(house, ()))
        self.assertIsNone(first_warning(house, [[1], [0], [1]]))
        for beats, what, at in (([[1], [None]], "level", 0), ([[1], []], "length", 0)):
            with self.assertRaises(BadLevels) as caught:
                first_warning(house, beats)
            self.assertEqual((caught.exception.what, caught.exception.at), (what, at))

    def test_faults_come_first(self):
        house = House("24", "sos", mark=0, rows=1)
        for thing in no_faults("sos"):
            with self.assertRaises(BadFault) as caught:
                first_warning(house, [[]], (("cut", 0), thing))
            self.assertIs(caught.exception.fault, thing)


if __name__ == "__main__":
    unittest.main()

"""[10.4] to [10.7] and the heading repairs.py."""

import itertools
import random
import time
import unittest

from tests import plain
from tests.services import some_service
from tests.shown import FAILING, SAFE, TOWN, big_service
from tests.test_changes import some_change
from tests.test_orders import bare_card
from tests.test_verdict import told
from wheelchorus.cards import read_card
from wheelchorus.changes import changed
from wheelchorus.errors import BadChange, CannotBe, NoSet, TooManyCases, TooManyChanges, TooManyStandings
from wheelchorus.repairs import least_repairs, sets_of
from wheelchorus.service import Service
from wheelchorus.town import Town
from wheelchorus.verdict import verdict
from wheelchorus.verdictjudge import verdict_fault

NO_SETS = plain.ANY_OBJECTS + plain.WHOLE_NUMBERS + (
    [0], (2,), (-1,), (0, 0), (1, 0), (True,), (False,), (0, True), ("0",), ((0,),), (None,), ([0],), {0: 1}, "0",
    (0, 1, 2), (10 ** 39,),
)


def all_sets(many):
    return [chosen for size in range(many + 1) for chosen in itertools.combinations(range(many), size)]


class PlainRepairs:
    """[10.5], [10.6] set by set, from the fates alone."""

    def __init__(self, service, pool):
        self.many = len(pool)
        self.fates = {}
        for chosen in all_sets(self.many):
            try:
                found = verdict(changed(service, [pool[index] for index in chosen]))
                self.fates[chosen] = found.statement or "safe"
            except CannotBe:
                self.fates[chosen] = "cannot"

    def is_fine(self, chosen):
        return self.fates[chosen] in ("safe", "cannot")

    def good(self):
        return tuple(chosen for chosen, fate in self.fates.items() if fate == "safe")

    def least_of(self, sets):
        return tuple(chosen for chosen in sets if not any(set(other) < set(chosen) for other in sets))

    def firm(self):
        return tuple(chosen for chosen in self.good()
                     if all(self.is_fine(other) for other in self.fates if set(chosen) <= set(other)))

    def harms(self):
        return tuple((chosen, index) for chosen in self.good() for index in range(self.many)
                     if index not in chosen and not self.is_fine(tuple(sorted(chosen + (index,)))))


class SetsTest(unittest.TestCase):
    def test_all_in_order(self):
        for many in range(7):
            self.assertEqual(list(sets_of(many)), all_sets(many))
        self.assertEqual(list(sets_of(0)), [()])
        self.assertEqual(list(sets_of(2)), [(), (0,), (1,), (0, 1)])


class RepairsTest(unittest.TestCase):
    def check(self, service, pool):
        kept = repr(pool)
        repairs = least_repairs(service, pool)
        self.assertEqual(repr(pool), kept)
        model = PlainRepairs(service, pool)
        good = model.good()
        self.assertEqual([chosen for chosen, _ in repairs.entries], all_sets(len(pool)))
        self.assertEqual(repairs.good, good)
        self.assertEqual(repairs.least, model.least_of(good))
        self.assertEqual(repairs.firm, model.firm())
        self.assertEqual(repairs.least_firm, model.least_of(model.firm()))
        self.assertEqual(repairs.harms, model.harms())
        self.assertEqual((tuple(repairs), len(repairs)), (repairs.least, len(repairs.least)))
        for chosen, found in repairs.entries:
            self.check_set(service, pool, repairs, model, chosen, found)
        return repairs

    def check_set(self, service, pool, repairs, model, chosen, found):
        self.assertEqual(repairs.fate(chosen), model.fates[chosen])
        self.assertIs(repairs.paper(chosen), found)
        self.assertIs(chosen in repairs, chosen in repairs.least)
        if model.fates[chosen] == "cannot":
            self.assertIsNone(found)
            with self.assertRaises(CannotBe) as caught:
                repairs.service_of(chosen)
            self.assertIn(caught.exception.why, ("twice", "together"))
            return
        other = changed(service, [pool[index] for index in chosen])
        self.assertEqual(repairs.service_of(chosen), other)
        self.assertEqual(told(found), told(verdict(other)))
        self.assertIsNone(verdict_fault(other, found))

    def test_pools_by_chance(self):
        chance = random.Random(10601)
        counts = {}
        for _ in range(60):
            service = some_service(chance, most=chance.choice((0, 0, 1)))
            if chance.random() < 0.4:
                # A safe one, so that changes can do harm.
                service = SAFE.with_parts(most_open=chance.randint(1, 2))
            pool = [some_change(chance, service) for _ in range(chance.choice((0, 1, 2, 3, 3, 4)))]
            repairs = self.check(service, chance.choice((list, tuple))(pool))
            told_of = [("least", len(repairs)), ("harm", bool(repairs.harms)), ("firm", repairs.firm == repairs.good)]
            for key in told_of + [repairs.fate(chosen) for chosen, _ in repairs.entries]:
                counts[key] = counts.get(key, 0) + 1
        for fate in ("cannot", "safe", "false", "hidden", "houses", "crews"):
            self.assertGreater(counts.get(fate, 0), 10, fate)
        for key in (("least", 0), ("least", 1), ("harm", True), ("firm", False)):
            self.assertGreater(counts.get(key, 0), 1, key)

    def test_known(self):
        """Each of two changes mends the crews; both together spoil them again."""
        service = FAILING["crews"]
        pool = [("counts", "24", [1, 0, 1]), ("order", "24", (0, 1, 2)), ["counts", "24", (2, 2, 2)], ("rounds", 1)]
        repairs = self.check(service, pool)
        self.assertEqual(repairs.pool, (("counts", "24", (1, 0, 1)), ("order", "24", (0, 1, 2)),
                                        ("counts", "24", (2, 2, 2)), ("rounds", 1)))
        self.assertEqual(repairs.service, service)
        self.assertEqual([repairs.fate(chosen) for chosen in ((), (0,), (1,), (2,), (0, 2), (3,))],
                         ["crews", "crews", "crews", "crews", "cannot", "cannot"])
        self.assertEqual(repairs.least, ((1, 2),))

    def test_a_repair_that_another_change_spoils(self):
        service = SAFE.with_parts(most=1)
        pool = (("number", "3", "24"), ["sort", "3", "plain"], ("rounds", 8), ("hear", 1))
        self.check(service, pool)
        good = SAFE
        pool = [("need", "5", 2), ("counts", "24", (0, 0, 0)), ("counts", "24", (0, 0, 0)), ("ring", "5", "sosos")]
        repairs = self.check(good, pool)
        self.assertEqual(repairs.least, ((),))
        self.assertEqual(repairs.least_firm, ())
        self.assertIn(((), 1), repairs.harms)
        self.assertEqual(repairs.fate((1, 2)), "cannot")
        self.assertNotIn(((1,), 2), repairs.harms)

    def test_least_sets_of_two_sizes(self):
        pool = [("hear", 1), ("ring", "5", "soo"), ("rounds", 3), ("number", "3", "211")]
        repairs = self.check(FAILING["hidden"], pool)
        self.assertEqual(repairs.least, ((2,), (0, 3)))
        self.assertEqual(list(repairs), [(2,), (0, 3)])

    def test_an_empty_pool(self):
        for service, least in ((SAFE, ((),)), (FAILING["houses"], ())):
            for pool in ((), []):
                repairs = self.check(service, pool)
                self.assertEqual((repairs.pool, repairs.least, repairs.firm, repairs.harms), ((), least, least, ()))
                self.assertEqual(len(repairs), len(least))

    def test_a_change_that_stands_twice(self):
        pool = [("hear", 2), ["hear", 2], ("hear", 1)]
        repairs = self.check(SAFE, pool)
        self.assertEqual([repairs.fate(chosen) for chosen in ((0,), (1,), (0, 1), (0, 1, 2))],
                         ["safe", "safe", "cannot", "cannot"])
        self.assertEqual(repairs.pool, (("hear", 2), ("hear", 2), ("hear", 1)))

    def test_kinds(self):
        repairs = least_repairs(SAFE, [["order", "24", [0, 1]], ("rounds", 1)])
        for name in ("pool", "entries", "good", "least", "firm", "least_firm", "harms"):
            self.assertIs(type(getattr(repairs, name)), tuple, name)
        self.assertEqual(repairs.pool, (("order", "24", (0, 1)), ("rounds", 1)))
        self.assertIs(type(repairs.pool[0][2]), tuple)
        self.assertTrue(all(type(entry) is tuple for entry in repairs.entries))

    def test_six_changes(self):
        begun = time.monotonic()
        pool = [("sort", "24", "shy"), ("sort", "5", "plain"), ("rounds", 3), ("counts", "24", (2, 2, 2)),
                ("need", "3", 2), ("order", "24", (1,))]
        self.check(SAFE.with_parts(joining=True), pool)
        service = big_service(5)
        numbers = service.town.numbers
        pool = [("sort", numbers[0], "shy"), ("rounds", 8), ("number", numbers[1], "1"), ("number", numbers[2], "2"),
                ("hear", 1), ("sort", numbers[7], "shy")]
        repairs = least_repairs(service, pool)
        self.assertEqual(len(repairs.entries), 64)
        self.assertLess(time.monotonic() - begun, 90)


class ErrorsTest(unittest.TestCase):
    def test_no_set(self):
        repairs = least_repairs(SAFE, [("hear", 1), ("rounds", 3)])
        for thing in NO_SETS:
            if thing == () and type(thing) is tuple:
                continue
            self.assertIs(thing in repairs, False)
            for method in (repairs.fate, repairs.paper, repairs.service_of):
                with self.assertRaises(NoSet) as caught:
                    method(thing)
                self.assertIs(caught.exception.thing, thing)
        self.assertIn((), repairs)
        single = least_repairs(FAILING["houses"], [("need", "5", 1), ("ring", "5", "sosos")])
        self.assertEqual(single.least, ((0,), (1,)))
        for thing in ((False,), (True,), [0], [1], 0, 1, ((0,),), "0"):
            self.assertNotIn(thing, single)
        empty = least_repairs(FAILING["false"], [])
        self.assertNotIn((), empty)
        one = least_repairs(FAILING["hidden"], [("rounds", 1), ("hear", 1)])
        for chosen in all_sets(2):
            self.assertIs(chosen in one, chosen in one.least)
            self.assertIs(list(chosen) in one, False)

    def test_pools(self):
        good = ("hear", 1)
        for many in (7, 8, 20):
            for pool in ([good] * many, (None,) * many):
                with self.assertRaises(TooManyChanges) as caught:
                    least_repairs(SAFE, pool)
                self.assertEqual(caught.exception.count, many)
        for thing in plain.ANY_OBJECTS + (("hear", 3), ("sort", "9", "shy"), ("need", "24", 1)):
            for pool, index in (([thing], 0), ([good, good, thing, None], 2), ((good,) * 5 + (thing,), 5)):
                with self.assertRaises(BadChange) as caught:
                    least_repairs(SAFE, pool)
                self.assertEqual(caught.exception.index, index)

    def test_too_many_come_through(self):
        town = Town([[(number, "shy") for number in "123456"]], rounds=1)
        cards = [bare_card(number) for number in "12345"] + [read_card("6: 0 / 0 0 0 / 1 0 0")]
        service = Service(town, cards=cards, most_open=6)
        self.assertEqual(least_repairs(service, []).fate(()), "crews")
        with self.assertRaises(TooManyStandings):
            least_repairs(service, [("counts", "6", (1, 1, 1))])
        with self.assertRaises(BadChange):
            least_repairs(service, [("counts", "6", (1, 1, 1)), None])
        many = big_service(1, every=2, rounds=8, hear=1, joining=True)
        with self.assertRaises(TooManyCases):
            least_repairs(many, [])

    def test_verdicts_of_other_services_are_not_mixed_up(self):
        """Sets that change the same parts in other ways have verdicts of their own."""
        chance = random.Random(10602)
        for _ in range(20):
            service = some_service(chance, most=0)
            number = chance.choice(TOWN.numbers)
            pool = [("sort", name, sort) for name in service.town.numbers[:2] for sort in ("plain", "shy")]
            repairs = least_repairs(service, pool)
            for chosen, found in repairs.entries:
                if found is not None:
                    self.assertEqual(told(found), told(verdict(repairs.service_of(chosen))), number)


if __name__ == "__main__":
    unittest.main()

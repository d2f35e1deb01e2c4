"""[10.8] and the heading repairjudge.py."""

import random
import unittest

from tests import plain
from tests.services import some_service
from tests.shown import FAILING, SAFE
from tests.test_changes import some_change
from tests.test_repairs import NO_SETS, all_sets
from tests.test_verdictjudge import remade
from wheelchorus.repairjudge import repairs_fault
from wheelchorus.repairs import least_repairs
from wheelchorus.verdict import Verdict, verdict

SERVICE = FAILING["houses"]
POOL = [("need", "5", 1), ("ring", "5", "sosos"), ["rounds", 1], ("hear", 1)]


class RepairsFaultTest(unittest.TestCase):
    def setUp(self):
        repairs = least_repairs(SERVICE, POOL)
        self.entries, self.least = repairs.entries, repairs.least
        self.assertEqual(self.least, ((0,), (1,)))

    def check(self, fault, entries, least, service=SERVICE, pool=POOL):
        for kind in (list, tuple):
            self.assertEqual(repairs_fault(service, kind(pool), kind(entries), kind(least)), fault)

    def test_right_repairs(self):
        self.check(None, self.entries, self.least)
        chance = random.Random(1081)
        for _ in range(25):
            service = some_service(chance)
            pool = [some_change(chance, service) for _ in range(chance.randint(0, 3))]
            repairs = least_repairs(service, pool)
            self.check(None, repairs.entries, repairs.least, service, pool)

    def test_sets(self):
        self.assertEqual([chosen for chosen, _ in self.entries], all_sets(4))
        for index, (chosen, found) in enumerate(self.entries):
            rest = list(self.entries)
            self.check(("sets",), rest[:index] + rest[index + 1:], self.least)
            self.check(("sets",), rest[:index] + rest[index:index + 1] + rest[index:], self.least)
            for thing in NO_SETS + (list(chosen), chosen + (0,)):
                if thing != chosen or type(thing) is not tuple:
                    rest[index] = (thing, found)
                    self.check(("sets",), rest, [None])
        for chosen in ((True,), (False,)):
            rest = list(self.entries)
            at = [one for one, _ in rest].index((int(chosen[0]),))
            rest[at] = (chosen, rest[at][1])
            self.check(("sets",), rest, self.least)
        self.check(("sets",), self.entries[::-1], self.least)
        self.check(("sets",), (), ())
        self.check(("sets",), self.entries, self.least, pool=POOL[:3])

    def test_cannot(self):
        for index, (chosen, found) in enumerate(self.entries):
            rest = list(self.entries)
            rest[index] = (chosen, Verdict("false") if found is None else None)
            self.check(("cannot", chosen), rest, [None])
            # Behind it stands a wrong verdict.
            for later in range(index + 1, len(rest)):
                rest[later] = (rest[later][0], Verdict(None))
            self.check(("cannot", chosen), rest, ())

    def test_verdict(self):
        other = verdict(SAFE)
        for index, (chosen, found) in enumerate(self.entries):
            if found is None:
                continue
            wrong = [Verdict(None), Verdict("houses"), Verdict("no word"), remade(found, papers=found.papers + (verdict(SAFE).papers[0],))]
            wrong += [remade(found, statement=None), other] if found.statement else [remade(found, statement="crews")]
            for thing in wrong:
                rest = list(self.entries)
                rest[index] = (chosen, thing)
                self.check(("verdict", chosen), rest, self.least)
                rest[-1] = (rest[-1][0], Verdict(None) if rest[-1][1] is None else None)
                if index < len(rest) - 1:
                    self.check(("verdict", chosen), rest, ())

    def test_least(self):
        for least in ((), self.least[:1], self.least[1:], self.least[::-1], self.least + ((0, 1),), self.least * 2,
                      [[0], [1]], ((False,), (True,)), ((False,), (1,)), ((0,), [1]), ("0", "1"), (0, 1), ((0,), None),
                      [()], [None], plain.ANY_OBJECTS):
            self.check(("least",), self.entries, least)
        safe = least_repairs(SAFE, POOL)
        self.check(None, safe.entries, [()], SAFE)
        self.check(("least",), safe.entries, [], SAFE)
        self.check(("least",), safe.entries, [[]], SAFE)
        self.check(("least",), safe.entries, [(), (0,)], SAFE)

    def test_an_empty_pool(self):
        found = verdict(SERVICE)
        self.check(None, [((), found)], [], pool=())
        self.check(("least",), [((), found)], [()], pool=())
        self.check(("cannot", ()), [((), None)], [], pool=())
        self.check(("verdict", ()), [((), verdict(SAFE))], [()], pool=())
        self.check(("sets",), [([], found)], [], pool=())


if __name__ == "__main__":
    unittest.main()

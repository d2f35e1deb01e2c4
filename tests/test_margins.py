"""[9.10], [9.15] and the heading margins.py."""

import random
import unittest

from tests import plain
from tests.crews import some_room
from tests.services import PlainRun, levels_for, some_happening, some_service, some_town
from tests.test_orders import bare_card
from wheelchorus.cards import Card
from wheelchorus.errors import TooManyStandings
from wheelchorus.hiding import who_hides
from wheelchorus.house import House
from wheelchorus.margins import greatest_most, greatest_open, rest_within, warning_after
from wheelchorus.orders import judge_orders
from wheelchorus.service import Service
from wheelchorus.service_run import ServiceRun
from wheelchorus.town import Town


def plain_rest(service):
    town = service.town
    found = []
    for wire in service.wires:
        lengths = {sort: [len(plain.row(number)) for number, own in wire if own == sort] for sort in ("plain", "shy")}
        waits = 5 + sum(length + 3 + sent for length in lengths["shy"] for sent in range(town.rounds))
        found.append(max([2] + [town.rounds * length for length in lengths["plain"]]) + waits)
    return max(found)


class RestTest(unittest.TestCase):
    def test_known(self):
        # The row of 2 is 8 ticks long, that of 3 ten, that of 12 twelve.
        for loops, rounds, joining, ticks in (
            ([[("2", "plain")]], 1, False, 8 + 5),
            ([[("2", "plain")]], 8, False, 64 + 5),
            ([[("2", "shy")]], 1, False, 2 + 5 + 8 + 3),
            ([[("2", "shy")]], 2, False, 2 + 5 + 8 + 3 + 8 + 4),
            ([[("2", "plain"), ("12", "plain")]], 3, False, 36 + 5),
            ([[("2", "plain"), ("12", "shy")]], 1, False, 8 + 5 + 15),
            ([[("2", "plain")], [("12", "shy")]], 1, False, 2 + 5 + 15),
            ([[("2", "plain")], [("12", "shy")]], 1, True, 8 + 5 + 15),
            ([[("12", "shy")], [("2", "plain")], [("3", "shy")]], 2, True, 16 + 5 + 15 + 16 + 13 + 14),
        ):
            self.assertEqual(rest_within(Service(Town(loops, rounds=rounds), joining=joining)), ticks)

    def test_beside_plain_reckoning(self):
        chance = random.Random(9101)
        for _ in range(200):
            service = some_service(chance)
            self.assertEqual(rest_within(service), plain_rest(service))

    def test_runs_come_to_rest_in_time(self):
        chance = random.Random(9102)
        close = 0
        for _ in range(150):
            service = some_service(chance)
            run, model = ServiceRun(service), PlainRun(service)
            for _ in range(chance.randint(1, 8)):
                for _ in range(chance.randint(0, 4)):
                    happening = some_happening(chance, model)
                    model.do(happening)
                    run.do(happening)
                for _ in range(chance.choice((1, 4, 12))):
                    for house in service.houses:
                        happening = ("levels", house.box, levels_for(chance, house))
                        model.do(happening)
                        run.do(happening)
                    model.tick()
                    run.tick()
            for loop, stretches in enumerate(run.cuts):
                for stretch in stretches:
                    run.mend(loop, stretch)
            # All that is done now is waiting.
            due = run.clock + rest_within(service)
            while not run.rests():
                run.tick()
                self.assertLessEqual(run.clock, due)
            close += run.clock + 6 >= due
        self.assertGreater(close, 3)


class GreatestMostTest(unittest.TestCase):
    def test_known(self):
        for loops, rounds, hear, joining, most in (
            ([[("12", "plain")]], 8, 1, False, None),
            ([[("12", "plain")], [("3", "plain")]], 8, 1, False, None),
            ([[("12", "shy"), ("3", "shy")]], 8, 1, False, None),
            ([[("12", "shy"), ("3", "shy")]], 8, 2, False, 0),
            ([[("12", "shy")], [("3", "shy")]], 8, 2, True, 0),
            ([[("12", "plain"), ("3", "plain")]], 1, 1, False, 0),
            # A pull of the shy box hides the plain one; nothing hides the shy one.
            ([[("12", "plain"), ("3", "shy")]], 1, 1, False, 0),
            ([[("12", "shy"), ("3", "plain")]], 4, 2, False, 2),
        ):
            service = Service(Town(loops, rounds=rounds, hear=hear), joining=joining)
            self.assertEqual(greatest_most(service), most, loops)

    def test_beside_who_hides(self):
        chance = random.Random(9151)
        told = set()
        for _ in range(150):
            service = Service(some_town(chance, 4, 8), joining=chance.random() < 0.5)
            town = service.town
            rows = [row for wire in service.wires for row in who_hides(wire, rounds=town.rounds, hear=town.hear)]
            counts = [row[2] for row in rows if row[2] is not None]
            expected = min(counts) - 1 if counts else None
            self.assertEqual(greatest_most(service), expected)
            told.add(expected)
        self.assertTrue({None, 0, 1} <= told)


class OtherMarginsTest(unittest.TestCase):
    TOWN = Town([[(number, "plain") for number in "123456"]], rounds=1)

    def test_greatest_open(self):
        chance = random.Random(9152)
        told = {}
        for _ in range(120):
            room = some_room(chance, numbers=("1", "2", "3"))
            service = Service(self.TOWN, stations=room.stations, cards=room.cards, most_open=chance.randint(1, 6))
            holds = [judge_orders(room, most_open=most_open).is_safe for most_open in range(1, 7)]
            expected = holds.index(False) if False in holds else 6
            self.assertEqual(greatest_open(service), expected)
            told[expected] = told.get(expected, 0) + 1
        for count in (0, 1, 6):
            self.assertGreater(told.get(count, 0), 0, count)

    def test_greatest_open_asks_upwards(self):
        # With five open there would be too many standings, but it fails ahead of that.
        cards = [bare_card(number) for number in "12345"]
        crew = Card("6", (0,), counts=(1, 1, 1), owed=(1, 1, 1))
        taking = Card("1", (0,), counts=(1, 1, 1))
        service = Service(self.TOWN, cards=[taking] + cards[1:] + [crew])
        self.assertEqual(greatest_open(service), 1)
        with self.assertRaises(TooManyStandings) as caught:
            greatest_open(Service(self.TOWN, cards=cards + [bare_card("6")]))
        self.assertEqual(caught.exception.count, 3000)
        self.assertEqual(greatest_open(Service(self.TOWN)), 6)

    def test_warning_after(self):
        houses = [House("3", "sos", mark=9, rows=4, need=2), House("1", "s", mark=0, rows=8)]
        self.assertEqual(warning_after(Service(self.TOWN, houses=houses)), (("3", 4, 8), ("1", 8, 8)))
        self.assertEqual(warning_after(Service(self.TOWN)), ())


if __name__ == "__main__":
    unittest.main()

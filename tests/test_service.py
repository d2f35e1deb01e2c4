"""[9.1], [9.2] and the heading service.py."""

import random
import unittest

from tests import plain
from tests.services import some_service
from wheelchorus.cards import Card, card_text, read_card
from wheelchorus.errors import BadService, BadStations, CardTwice, NoCrew, NoHouse, NoStation
from wheelchorus.house import House
from wheelchorus.room import Room
from wheelchorus.service import Service
from wheelchorus.town import Town

TOWN = Town([[("24", "plain"), ("3", "shy")], [("12", "shy")], [("5", "plain")]], rounds=3, hear=2)
HOUSES = (House("3", "sos", mark=5, rows=2), House("12", "s", mark=0, rows=1))
CARDS = (read_card("24: 0 1 / 1 1 1 / 0 1 1 / 1>0"), read_card("5: - / 0 0 0 / 0 0 0"))
PARTS = {"houses": HOUSES, "stations": (0, 0, 1), "cards": CARDS, "cutting": True, "joining": False, "most": 3,
         "most_open": 2}
NAMES = ("town", "houses", "stations", "cards", "cutting", "joining", "most", "most_open")


def full_service(**more):
    return Service(TOWN, **{**PARTS, **more})


def house(box, ring="s"):
    return House(box, ring, mark=0, rows=1)


class AttributesTest(unittest.TestCase):
    def test_all_left_out(self):
        service = Service(TOWN)
        self.assertEqual(service.town, TOWN)
        told = [getattr(service, name) for name in NAMES[1:]]
        self.assertEqual(told, [(), (0,), (), False, False, 0, 1])
        self.assertIs(service.key, False)
        self.assertEqual(service.wires, TOWN.loops)

    def test_all_given(self):
        lists = {"houses": list(HOUSES), "stations": [0, 0, 1], "cards": list(CARDS)}
        for service in (full_service(), full_service(**lists)):
            for name in NAMES[1:]:
                self.assertEqual(getattr(service, name) == PARTS[name], True, name)
            for name in ("houses", "stations", "cards", "wires"):
                self.assertIs(type(getattr(service, name)), tuple)
            self.assertIsInstance(service.room, Room)
            self.assertEqual((service.room.stations, service.room.numbers), ((0, 0, 1), ("24", "5")))
            self.assertIs(service.key, True)
        kept = full_service(**lists)
        for one in lists.values():
            one.clear()
        self.assertEqual(kept, full_service())

    def test_wires_and_key(self):
        for cutting in (False, True):
            for joining in (False, True):
                service = Service(TOWN, cutting=cutting, joining=joining)
                joined = (tuple(box for loop in TOWN.loops for box in loop),)
                self.assertEqual(service.wires, joined if joining else TOWN.loops)
                self.assertIs(service.key, cutting or joining)

    def test_limits(self):
        for name, worths in (("most", (0, 1, 99)), ("most_open", (1, 2, 6))):
            for worth in worths:
                self.assertEqual(getattr(Service(TOWN, **{name: worth}), name), worth)
        numbers = ("1", "2", "3", "4", "5", "6", "7", "8", "9", "11")
        town = Town([[(number, "plain") for number in numbers]], rounds=1)
        cards = [Card(number, (0, 1, 2, 3, 4, 5), counts=(0, 0, 0)) for number in numbers[:6]]
        service = Service(town, houses=[house(number) for number in numbers], cards=cards, stations=(8,) * 6)
        self.assertEqual((len(service.houses), service.room.numbers), (10, numbers[:6]))

    def test_house_of(self):
        service = full_service()
        self.assertEqual([service.house_of(box) for box in ("3", "12")], list(HOUSES))
        for thing in plain.ANY_OBJECTS + plain.WHOLE_NUMBERS + ("24", "5", "1", 3, ("3",), ["3"], {"3": HOUSES[0].box}):
            with self.assertRaises(NoHouse) as caught:
                service.house_of(thing)
            self.assertIs(caught.exception.box, thing)


class ErrorsTest(unittest.TestCase):
    WRONG = {
        "houses": plain.ANY_OBJECTS[:11] + (
            "3", [None], ["3"], [HOUSES[0], HOUSES[0]], [HOUSES[0], house("3", "ss")], [house("9")], [HOUSES[1], "3"],
            {"3": HOUSES[0]}, [[HOUSES[0]]], [HOUSES[0], HOUSES[1], house("111")],
        ),
        "cutting": plain.ANY_OBJECTS + plain.WHOLE_NUMBERS,
        "joining": plain.ANY_OBJECTS + plain.WHOLE_NUMBERS,
        "most": plain.ANY_OBJECTS + (-1, 100, 10 ** 39, "1"),
        "most_open": plain.ANY_OBJECTS + (0, 7, -1, 10 ** 39, "1"),
    }

    def check(self, error, parts, **attributes):
        with self.assertRaises(error) as caught:
            Service(TOWN, **{**PARTS, **parts})
        for name, worth in attributes.items():
            self.assertEqual(getattr(caught.exception, name), worth, parts)

    def test_each_word(self):
        for name, things in self.WRONG.items():
            good = (True, False) if name in ("cutting", "joining") else ([], ()) if name == "houses" else ()
            for thing in things:
                if not any(thing is one or thing == one and type(thing) is type(one) for one in good):
                    self.check(BadService, {name: thing}, what=name)

    def test_order(self):
        wrong = [("houses", [house("9")]), ("cutting", 1), ("joining", 0), ("most", True), ("most_open", 7)]
        for index, (name, thing) in enumerate(wrong):
            parts = dict(wrong[index:])
            parts.update(stations=None, cards=[Card("9", (5,), counts=(0, 0, 0))])
            self.check(BadService, parts, what=name)

    def test_errors_of_the_room_and_cards_of_other_numbers(self):
        other = Card("9", (), counts=(0, 0, 0))
        self.check(BadStations, {"stations": (9,), "cards": [other]}, stations=(9,))
        self.check(NoCrew, {"cards": [other, Card("5", (3,), counts=(0, 0, 0))]}, number="5", crew=3)
        self.check(NoStation, {"cards": [other, Card("5", (), counts=(0, 0, 0), moves=[(0, 2)])]}, number="5", station=2)
        self.check(CardTwice, {"cards": [other, CARDS[0], CARDS[0]]}, number="24")
        self.check(BadService, {"cards": [CARDS[0], other]}, what="cards")


class EqualTest(unittest.TestCase):
    CHANGED = {
        "town": TOWN.with_sort("5", "shy"), "houses": HOUSES[::-1], "stations": (0, 1, 0),
        "cards": (CARDS[0], read_card("5: - / 0 0 0 / 0 0 1")), "cutting": False, "joining": True, "most": 4,
        "most_open": 1,
    }

    def test_equal(self):
        town = Town([list(map(list, loop)) for loop in TOWN.loops], rounds=3, hear=2)
        houses = [House("3", "sos", mark=5, rows=2, need=1), House("12", "s", mark=0, rows=1)]
        other = Service(town, **{**PARTS, "houses": houses, "cards": [read_card(card_text(card)) for card in CARDS]})
        self.assertTrue(full_service() == other)
        self.assertFalse(full_service() != other)
        self.assertTrue(Service(TOWN) == Service(town, stations=[0]))

    def test_each_part_counts(self):
        service = full_service()
        for name, worth in self.CHANGED.items():
            self.assertFalse(service == service.with_parts(**{name: worth}), name)
        self.assertFalse(service == full_service(cards=CARDS[::-1]))
        self.assertFalse(service == full_service(houses=HOUSES[:1]))
        for thing in plain.ANY_OBJECTS + (TOWN, service.room):
            self.assertFalse(service == thing)

    def test_with_parts(self):
        service = full_service()
        for name, worth in self.CHANGED.items():
            found = service.with_parts(**{name: worth})
            for other in NAMES:
                expected = worth if other == name else getattr(service, other)
                self.assertTrue(getattr(found, other) == expected, (name, other))
        self.assertEqual(service.with_parts(), service)
        self.assertIsNot(service.with_parts(), service)
        several = service.with_parts(most=9, joining=True, houses=[HOUSES[1]])
        self.assertEqual((several.most, several.joining, several.houses), (9, True, HOUSES[1:]))
        self.assertEqual(several.wires, (TOWN.wire(),))
        self.assertEqual(service, full_service())

    def test_errors_of_with_parts(self):
        service = full_service()
        for parts, what in (
            ({"key": True}, "key"), ({"room": 1, "wires": 2}, "room"), ({"wires": 2, "room": 1}, "wires"),
            ({"most": -1, "Town": TOWN}, "Town"), ({"houses": None, "most": -1, "crews": ()}, "crews"),
            ({"most": -1, "houses": None}, "houses"), ({"most_open": 0, "most": 100}, "most"), ({"cutting": 1}, "cutting"),
            ({"town": Town([[("24", "plain")]], rounds=1)}, "houses"),
            ({"town": Town([[("3", "plain"), ("12", "shy")]], rounds=1)}, "cards"),
        ):
            with self.assertRaises(BadService) as caught:
                service.with_parts(**parts)
            self.assertEqual(caught.exception.what, what)
        with self.assertRaises(BadStations):
            service.with_parts(stations=[])
        with self.assertRaises(NoCrew):
            service.with_parts(stations=[0])

    def test_services_by_chance(self):
        chance = random.Random(911)
        for _ in range(50):
            service = some_service(chance)
            again = Service(service.town, **{name: getattr(service, name) for name in NAMES[1:]})
            self.assertEqual(service, again)
            self.assertNotEqual(service, again.with_parts(most_open=service.most_open % 6 + 1))


if __name__ == "__main__":
    unittest.main()

"""[10.1] to [10.3] and the heading changes.py."""

import random
import unittest

from tests import plain
from tests.services import TINY, some_service
from tests.rings import some_ring
from wheelchorus.cards import card_text, read_card
from wheelchorus.changes import change_thing, changed
from wheelchorus.errors import (
    BadChange, BadHouse, BadTown, CannotBe, NoCrew, WheelError,
)
from wheelchorus.house import House
from wheelchorus.service import Service
from wheelchorus.town import Town
from wheelchorus.towntext import town_text

TOWN = Town([[("24", "plain"), ("3", "shy")], [("5", "shy"), ("12", "plain")]], rounds=2, hear=2)
SERVICE = Service(
    TOWN, houses=[House("3", "sos", mark=5, rows=2), House("12", "ss", mark=0, rows=1, need=2)], stations=(0, 0, 1),
    cards=[read_card("24: 0 2 / 1 1 0 / 1 1 1 / 1>1"), read_card("3: - / 1 0 0 / 0 0 0")], cutting=True, most=4,
    most_open=2,
)


def some_change(chance, service):
    """A change of the service, as a tuple or a list, mostly one that can be done."""
    words = ["sort", "number", "hear", "rounds"] + ["order", "counts"] * bool(service.cards)
    words += ["ring", "need"] * bool(service.houses)
    word = chance.choice(words)
    number = chance.choice(service.town.numbers)
    kind = chance.choice((list, tuple))
    if word == "sort":
        return kind((word, number, chance.choice(("plain", "shy"))))
    if word == "number":
        return kind((word, number, chance.choice(TINY + service.town.numbers)))
    if word in ("hear", "rounds"):
        return kind((word, chance.randint(1, 2 if word == "hear" else 4)))
    if word in ("order", "counts"):
        number = chance.choice(service.room.numbers)
        many = chance.randint(0, min(6, len(service.stations) + 1))
        worth = chance.sample(range(6), many) if word == "order" else [chance.randint(0, 2) for _ in range(3)]
        return kind((word, number, chance.choice((list, tuple))(worth)))
    house = chance.choice(service.houses)
    return kind((word, house.box, some_ring(chance, 5) if word == "ring" else chance.randint(1, 3)))


def by_hand(service, changes):
    """The changed service, built from plain values; errors of its parts come through."""
    worths = {tuple(change[:-1]): change[-1] for change in changes}

    def name(number):
        return worths.get(("number", number), number)

    loops = [[(name(number), worths.get(("sort", number), sort)) for number, sort in loop] for loop in service.town.loops]
    town = Town(loops, rounds=worths.get(("rounds",), service.town.rounds), hear=worths.get(("hear",), service.town.hear))
    houses = [House(name(house.box), worths.get(("ring", house.box), house.ring), mark=house.mark, rows=house.rows,
                    need=worths.get(("need", house.box), house.need)) for house in service.houses]
    cards = []
    for card in service.cards:
        _, order, counts, *rest = [part.strip() for part in card_text(card).replace(": ", " / ", 1).split(" / ")]
        if ("order", card.number) in worths:
            order = " ".join(map(str, worths["order", card.number])) or "-"
        if ("counts", card.number) in worths:
            counts = " ".join(map(str, worths["counts", card.number]))
        cards.append(read_card(f"{name(card.number)}: " + " / ".join([order, counts] + rest)))
    return Service(town, houses=houses, stations=service.stations, cards=cards, cutting=service.cutting,
                   joining=service.joining, most=service.most, most_open=service.most_open)


class ChangeThingTest(unittest.TestCase):
    def test_things(self):
        for change, thing in (
            (("sort", "24", "shy"), ("sort", "24")), (("number", "24", "1"), ("number", "24")), (("hear", 1), ("hear",)),
            (("rounds", 8), ("rounds",)), (("order", "24", [0]), ("order", "24")), (["counts", "3", (0, 0, 0)], ("counts", "3")),
            (["ring", "3", "s"], ("ring", "3")), (["need", "12", 10], ("need", "12")), (["hear", 2], ("hear",)),
        ):
            self.assertEqual(change_thing(change), thing)
            self.assertIs(type(change_thing(change)), tuple)


class ChangedTest(unittest.TestCase):
    def test_each_change(self):
        for change, words in (
            (("sort", "24", "shy"), {"town": TOWN.with_sort("24", "shy")}),
            (["hear", 1], {"town": TOWN.with_rules(hear=1)}),
            (("rounds", 8), {"town": TOWN.with_rules(rounds=8)}),
            (("order", "24", [1]), {"cards": [read_card("24: 1 / 1 1 0 / 1 1 1 / 1>1"), SERVICE.cards[1]]}),
            (["order", "24", ()], {"cards": [read_card("24: - / 1 1 0 / 1 1 1 / 1>1"), SERVICE.cards[1]]}),
            (("counts", "3", [6, 0, 1]), {"cards": [SERVICE.cards[0], read_card("3: - / 6 0 1 / 0 0 0")]}),
            (("ring", "3", "so"), {"houses": [House("3", "so", mark=5, rows=2), SERVICE.houses[1]]}),
            (("need", "12", 1), {"houses": [SERVICE.houses[0], House("12", "ss", mark=0, rows=1)]}),
        ):
            for changes in ([change], (change,)):
                self.assertEqual(changed(SERVICE, changes), SERVICE.with_parts(**words))
        self.assertEqual(changed(SERVICE, ()), SERVICE)
        self.assertIsNot(changed(SERVICE, []), SERVICE)

    def test_a_new_number_takes_card_and_house_along(self):
        found = changed(SERVICE, [("number", "3", "111")])
        self.assertEqual(town_text(found.town), "rounds 2 hear 2\nloop 24 plain, 111 shy\nloop 5 shy, 12 plain")
        self.assertEqual([house.box for house in found.houses], ["111", "12"])
        self.assertEqual(found.room.numbers, ("24", "111"))
        self.assertEqual((found.cutting, found.joining, found.most, found.most_open, found.stations),
                         (True, False, 4, 2, (0, 0, 1)))

    def test_all_at_once(self):
        """Numbers behind the word are those ahead of all changes."""
        swap = [("number", "24", "3"), ("number", "3", "24"), ("sort", "24", "shy"), ("sort", "3", "plain"),
                ("order", "24", [1]), ("ring", "3", "s"), ["counts", "3", [1, 1, 1]], ("need", "3", 1)]
        found = changed(SERVICE, swap)
        self.assertEqual(town_text(found.town), "rounds 2 hear 2\nloop 3 shy, 24 plain\nloop 5 shy, 12 plain")
        self.assertEqual([card_text(card) for card in found.cards],
                         ["3: 1 / 1 1 0 / 1 1 1 / 1>1", "24: - / 1 1 1 / 0 0 0"])
        self.assertEqual([(house.box, house.ring) for house in found.houses], [("24", "s"), ("12", "ss")])
        # The ring of one seeker and the need of one are done at once, too.
        found = changed(SERVICE, [("need", "12", 1), ("ring", "12", "s")])
        self.assertEqual(found.houses[1], House("12", "s", mark=0, rows=1))
        found = changed(SERVICE, [("need", "12", 3), ("ring", "12", "sss")])
        self.assertEqual(found.houses[1].need, 3)
        found = changed(SERVICE, [("hear", 1), ("rounds", 1)])
        self.assertEqual((found.town.hear, found.town.rounds), (1, 1))
        chain = changed(SERVICE, [("number", "24", "3"), ("number", "3", "5"), ("number", "5", "12"), ("number", "12", "24")])
        self.assertEqual(chain.town.numbers, ("3", "5", "12", "24"))

    def test_by_chance_in_any_order(self):
        chance = random.Random(10311)
        counts = {}
        for _ in range(500):
            service = some_service(chance)
            changes = [some_change(chance, service) for _ in range(chance.randint(0, 4))]
            things = [tuple(change[:-1]) for change in changes]
            kept = repr(changes)
            if len(set(things)) < len(things):
                expected = "twice"
            else:
                try:
                    expected = by_hand(service, changes)
                except WheelError as error:
                    expected = "together"
                    kind = type(error)
            for order in (changes, tuple(changes[::-1])):
                if isinstance(expected, Service):
                    found = changed(service, order)
                    self.assertEqual(found, expected)
                    continue
                with self.assertRaises(CannotBe) as caught:
                    changed(service, order)
                self.assertEqual(caught.exception.why, expected)
                if expected == "together":
                    self.assertIs(type(caught.exception.__cause__), kind)
            self.assertEqual(repr(changes), kept)
            key = expected if isinstance(expected, str) else "done"
            counts[key] = counts.get(key, 0) + 1
        for key in ("twice", "together", "done"):
            self.assertGreater(counts[key], 15, key)


class ErrorsTest(unittest.TestCase):
    def check_no_change(self, thing, service=SERVICE):
        good = ("sort", "24", "shy")
        for changes, index in (([thing], 0), ((good, thing), 1), ([good, good, thing, None], 2),
                               ([("hear", 2), ("rounds", 1), thing], 2)):
            with self.assertRaises(BadChange) as caught:
                changed(service, changes)
            self.assertEqual(caught.exception.index, index)

    def test_what_is_no_change(self):
        for thing in plain.ANY_OBJECTS + plain.WHOLE_NUMBERS + (
            "hear", ("hear",), ("hear", 1, 1), ("rounds", "24", 2), ("Hear", 1), (["hear"], 1), (None, 1), ("sort",),
            ("sort", "24"), ("sort", "24", "shy", 1), ("sort", "shy", "24"), {"hear": 1}, ("mark", "3", 5),
            ("rows", "3", 1), ("owed", "24", (0, 0, 0)), ("moves", "24", ()), ("joining", True), (("hear",), 1),
        ):
            self.check_no_change(thing)

    def test_wrong_worths(self):
        worths = {
            ("sort", "24"): ("Shy", "", 0, ["shy"], "plain "),
            ("number", "24"): ("", "0", "10", "889", "12345", 24, ["1"], "1 "),
            ("hear",): (0, 3, -1, "1", (1,), 10 ** 39),
            ("rounds",): (0, 9, -1, "1", [2]),
            ("order", "24"): ("0", [0, 0], (6,), [-1], ["0"], [None], [[0]], (True,), {0: 1}, [0, 1, 2, 3, 4, 5, 0]),
            ("counts", "24"): ((0, 0), (0, 0, 7), [0, 0, 0, 0], (0, 0, -1), (0, 0, True), "000", [0, 0, None]),
            ("ring", "3"): ("", "o", "sx", "S", "s" * 11, ["s"], 5, "s "),
            ("need", "3"): (0, 11, -1, "1", [1]),
        }
        for head, things in worths.items():
            for thing in things + (None, True, False, {}, [[]], ((), [])):
                self.check_no_change((*head, thing))
                self.check_no_change([*head, thing])
        self.assertEqual(changed(SERVICE, [("order", "24", [])]), changed(SERVICE, [("order", "24", ())]))

    def test_numbers_of_others(self):
        for word, number, worth in (("sort", "9", "shy"), ("number", "9", "1"), ("order", "5", (0,)), ("counts", "12", (0, 0, 0)),
                                    ("ring", "24", "s"), ("need", "5", 1), ("order", "9", (0,)), ("ring", "9", "s")):
            self.check_no_change((word, number, worth))
        for word, worth in (("sort", "shy"), ("number", "1"), ("order", (0,)), ("counts", (0, 0, 0)), ("ring", "s"),
                            ("need", 1)):
            for thing in plain.ANY_OBJECTS + (24, ("24",), ["24"], {"24": 1}):
                self.check_no_change((word, thing, worth))
        bare = Service(TOWN)
        for change in (("order", "24", (0,)), ("counts", "3", (0, 0, 0)), ("ring", "3", "s"), ("need", "12", 1)):
            self.check_no_change(change, bare)
            changed(SERVICE, [change])

    def check_cannot(self, why, changes, cause=None):
        with self.assertRaises(CannotBe) as caught:
            changed(SERVICE, changes)
        self.assertEqual(caught.exception.why, why)
        if cause is not None:
            error = caught.exception.__cause__
            self.assertIs(type(error), cause[0])
            self.assertEqual(tuple(vars(error).values()), cause[1:])

    def test_twice_comes_ahead_of_together(self):
        self.check_cannot("twice", [("sort", "24", "shy"), ["sort", "24", "plain"]])
        self.check_cannot("twice", [("hear", 1), ("rounds", 1), ("hear", 1)])
        self.check_cannot("twice", [("number", "24", "1"), ("number", "24", "1")])
        self.check_cannot("twice", [("rounds", 1), ("need", "3", 9), ["need", "3", 1]])
        self.check_cannot("together", [("rounds", 1), ("need", "3", 9)])

    def test_together_from_the_first_error(self):
        self.check_cannot("together", [("rounds", 1)], (BadTown, "hear"))
        self.check_cannot("together", [("number", "24", "3")], (BadTown, "double"))
        self.check_cannot("together", [("need", "3", 3)], (BadHouse, "need"))
        self.check_cannot("together", [("ring", "12", "s")], (BadHouse, "need"))
        self.check_cannot("together", [("order", "24", (0, 3))], (NoCrew, "24", 3))
        self.check_cannot("together", [("order", "3", (5,)), ("number", "3", "9")], (NoCrew, "9", 5))
        # The town comes ahead of the houses, these ahead of the service; their order has no effect.
        wrong = [("order", "3", (4,)), ("need", "12", 3), ("order", "24", (3,)), ("number", "24", "3"), ("rounds", 1)]
        for changes, cause in ((wrong, (BadTown, "double")), (wrong[:3] + wrong[4:], (BadTown, "hear")),
                               (wrong[:3], (BadHouse, "need")), ([wrong[0], wrong[2]], (NoCrew, "24", 3))):
            self.check_cannot("together", changes, cause)
            self.check_cannot("together", changes[::-1], cause)


if __name__ == "__main__":
    unittest.main()

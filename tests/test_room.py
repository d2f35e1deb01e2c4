"""[8.3] to [8.6], [8.8] and the heading room.py."""

import random
import unittest

from tests import plain
from tests.crews import PlainRoom, some_card, some_room
from wheelchorus.cards import Card, card_text
from wheelchorus.errors import BadStations, CardTwice, NoCard, NoCrew, NoStation
from wheelchorus.room import Room

COUNTS = (1, 1, 1)


def card(number="24", order=(), moves=(), counts=COUNTS, owed=(0, 0, 0)):
    return Card(number, order, counts=counts, owed=owed, moves=moves)


class RoomTest(unittest.TestCase):
    def check_error(self, error, stations, cards, **attributes):
        with self.assertRaises(error) as caught:
            Room(stations, cards)
        for name, worth in attributes.items():
            self.assertEqual(getattr(caught.exception, name), worth)
        return caught.exception

    def test_attributes(self):
        cards = [card("24", [0, 1]), card("3", [])]
        stations = [4, 0]
        room = Room(stations, cards)
        stations.append(9)
        cards.pop()
        self.assertEqual((room.stations, room.numbers), ((4, 0), ("24", "3")))
        self.assertEqual([card_text(one) for one in room.cards], ["24: 0 1 / 1 1 1 / 0 0 0", "3: - / 1 1 1 / 0 0 0"])
        for thing in (room.stations, room.numbers, room.cards):
            self.assertIs(type(thing), tuple)
        self.assertEqual(room.start(), ((("in", 4), ("in", 0)), (0, 0)))

    def test_least_and_greatest(self):
        bare = Room((8,), ())
        self.assertEqual((bare.stations, bare.cards, bare.numbers), ((8,), (), ()))
        self.assertEqual(bare.start(), ((("in", 8),), ()))
        self.assertEqual(bare.allowed(bare.start(), 6), ())
        numbers = ("1", "2", "3", "4", "5", "6")
        full = Room([0] * 6, tuple(card(number, (5, 4, 3, 2, 1, 0)) for number in numbers))
        self.assertEqual(full.numbers, numbers)
        self.assertEqual(full.allowed(full.start(), 1), tuple(("call", number) for number in numbers))

    def test_bad_stations(self):
        wrong = plain.ANY_OBJECTS + (0, 7, "0", {0: 0}, [9], [-1], (0,) * 7, [True], (0, None), ["0"], [[0]])
        for stations in wrong:
            if stations == [1] or stations == (1, 2):
                continue
            # It comes ahead of all that is wrong in the cards.
            error = self.check_error(BadStations, stations, [card("24", (5,), [(5, 8)]), card("24")])
            self.assertIs(error.stations, stations)

    def test_no_crew(self):
        for many in range(1, 6):
            stations = (0,) * many
            Room(stations, [card("24", (many - 1,), [(many - 1, 0)])])
            self.check_error(NoCrew, stations, [card("24", (0, many))] if many else (), number="24", crew=many)
            self.check_error(NoCrew, stations, [card("24", (), [(0, 0), (many, 0)])], number="24", crew=many)

    def test_no_station(self):
        Room((0, 8), [card("24", (), [(0, 8), (1, 0)])])
        self.check_error(NoStation, (0, 8), [card("24", (), [(0, 8), (1, 7)])], number="24", station=7)
        self.check_error(NoStation, [1], [card("3", (), [(0, 0)])], number="3", station=0)

    def test_order_of_errors(self):
        good = card("3", (0,), [(0, 1)])
        for cards, error, number, name, worth in (
            # All crews of the order come ahead of the moves.
            ([card("24", (0, 4), [(5, 8)])], NoCrew, "24", "crew", 4),
            ([card("24", (4, 5), [(5, 8)])], NoCrew, "24", "crew", 4),
            # Of one move the crew, of two the first.
            ([card("24", (), [(5, 8)])], NoCrew, "24", "crew", 5),
            ([card("24", (), [(0, 8), (5, 8)])], NoStation, "24", "station", 8),
            ([card("24", (), [(0, 1), (5, 8), (0, 7)])], NoCrew, "24", "crew", 5),
            ([card("24", (), [(0, 1), (0, 7), (0, 8)])], NoStation, "24", "station", 7),
            # Card by card; a number that stands twice comes last of all.
            ([good, card("24", (), [(0, 8)]), card("3", (5,))], NoStation, "24", "station", 8),
            ([good, good, card("24", (5,))], NoCrew, "24", "crew", 5),
            ([good, good, card("24", (), [(0, 5)])], NoStation, "24", "station", 5),
        ):
            self.check_error(error, (0, 1), cards, **{"number": number, name: worth})
        self.check_error(CardTwice, (0, 1), [good, card("5"), card("24"), card("24"), card("5"), good], number="24")
        self.check_error(CardTwice, (0, 1), (good, good), number="3")

    def test_card_of(self):
        room = Room((0,), [card("24"), card("3", (0,))])
        self.assertEqual(card_text(room.card_of("3")), "3: 0 / 1 1 1 / 0 0 0")
        for thing in plain.ANY_OBJECTS + plain.WHOLE_NUMBERS + ("5", "2", 24, ("24",), ["3"], {"24": 1}):
            with self.assertRaises(NoCard) as caught:
                room.card_of(thing)
            self.assertIs(caught.exception.number, thing)

    def test_with_card(self):
        room = Room((0, 1), [card("24"), card("3"), card("5")])
        other = room.with_card(card("3", (1,), owed=(0, 0, 1)))
        self.assertEqual([card_text(one) for one in other.cards],
                         ["24: - / 1 1 1 / 0 0 0", "3: 1 / 1 1 1 / 0 0 1", "5: - / 1 1 1 / 0 0 0"])
        self.assertEqual((other.stations, other.numbers), ((0, 1), ("24", "3", "5")))
        self.assertEqual(card_text(room.cards[1]), "3: - / 1 1 1 / 0 0 0")
        with self.assertRaises(NoCard) as caught:
            room.with_card(card("9", (5,)))
        self.assertEqual(caught.exception.number, "9")
        with self.assertRaises(NoCrew) as caught:
            room.with_card(card("3", (2,)))
        self.assertEqual((caught.exception.number, caught.exception.crew), ("3", 2))
        with self.assertRaises(NoStation) as caught:
            room.with_card(card("3", (), [(0, 2)]))
        self.assertEqual((caught.exception.number, caught.exception.station), ("3", 2))


class StepTest(unittest.TestCase):
    def test_beside_plain_model(self):
        chance = random.Random(851)
        seen = set()
        for _ in range(400):
            room = some_room(chance)
            model = PlainRoom(room)
            standing = room.start()
            most_open = chance.randint(1, 6)
            for _ in range(30):
                self.assertEqual(standing, model.standing())
                allowed = room.allowed(standing, most_open)
                self.assertEqual(allowed, model.allowed(most_open))
                self.assertIs(type(allowed), tuple)
                if not allowed:
                    break
                event = chance.choice(allowed)
                kept = repr(standing)
                after, told = room.step(standing, event)
                self.assertEqual(repr(standing), kept)
                self.assertEqual(told, model.do(event))
                seen |= self.kinds_of(event, told)
                standing = after
        self.assertEqual(seen, {"went", "moved", "some moved", "short", "grade 3", "returned", "home"})

    def kinds_of(self, event, told):
        if event[0] == "back":
            returned, home = told
            return ({"returned"} if returned else set()) | ({"home"} if home else set())
        grade, went, moved, short_by = told
        return ({"went"} if went else set()) | ({"moved"} if moved else set()) | ({"short"} if short_by else set()) | (
            {"some moved"} if len(moved) > 1 else set()) | ({"grade 3"} if grade == 3 else set())

    def test_a_call_of_an_open_number(self):
        room = Room((0, 1), [card("24", (0, 1)), card("3", (1,))])
        standing, _ = room.step(room.start(), ("call", "24"))
        self.assertEqual(room.step(standing, ("call", "24")), (standing, None))
        raised, _ = room.step(standing, ("more", "24"))
        self.assertEqual(room.step(raised, ("call", "24")), (raised, None))

    def test_allowed(self):
        room = Room((0,), [card("24"), card("3"), card("5")])
        standing = ((("in", 0),), (1, 0, 3))
        self.assertEqual(room.allowed(standing, 2), (("more", "24"), ("back", "24"), ("back", "5")))
        self.assertEqual(room.allowed(standing, 3),
                         (("more", "24"), ("back", "24"), ("call", "3"), ("back", "5")))
        self.assertEqual(room.allowed(((("in", 0),), (2, 0, 0)), 1), (("more", "24"), ("back", "24")))
        self.assertEqual(room.allowed(room.start(), 1), (("call", "24"), ("call", "3"), ("call", "5")))

    def told(self, room, *events):
        standing = room.start()
        told = None
        for event in events:
            standing, told = room.step(standing, event)
        return standing, told

    def test_crews_go_out_from_whatever_station_they_are_in_at(self):
        room = Room((0, 0, 1), [card("24", (2,), [(0, 1)]), card("3", (0, 1), counts=(2, 0, 0))])
        standing, told = self.told(room, ("call", "24"))
        self.assertEqual(told, (1, (2,), ((0, 1),), 0))
        self.assertEqual(standing, ((("in", 1), ("in", 0), ("out", "24")), (1, 0)))
        standing, told = self.told(room, ("call", "24"), ("call", "3"))
        self.assertEqual(told, (1, (0, 1), (), 0))
        self.assertEqual(standing, ((("out", "3"), ("out", "3"), ("out", "24")), (1, 1)))

    def test_owed_and_counts_of_0_and_crews_that_went_at_lower_grades(self):
        room = Room((0,) * 4, [card("24", (3, 1, 0), counts=(2, 0, 6), owed=(2, 3, 4))])
        self.assertEqual(self.told(room, ("call", "24"))[1], (1, (3, 1), (), 0))
        self.assertEqual(self.told(room, ("call", "24"), ("more", "24"))[1], (2, (), (), 1))
        standing, told = self.told(room, ("call", "24"), ("more", "24"), ("more", "24"))
        self.assertEqual(told, (3, (0,), (), 1))
        self.assertEqual(standing, ((("out", "24"), ("out", "24"), ("in", 0), ("out", "24")), (3,)))
        empty = Room((0,), [card("24", (), counts=(6, 6, 6), owed=(0, 0, 6))])
        self.assertEqual(self.told(empty, ("call", "24"))[1], (1, (), (), 0))
        self.assertEqual(self.told(empty, ("call", "24"), ("more", "24"), ("more", "24"))[1], (3, (), (), 6))

    def test_moves_one_after_another(self):
        # The first pair does nothing, as a crew is in at 1; the second needs another crew at its own station;
        # the fourth is possible only behind the third, and the fifth no more.
        moves = [(0, 1), (3, 2), (0, 2), (1, 0), (1, 2), (0, 2)]
        room = Room((0, 0, 2, 1), [card("24", (2,), moves)])
        standing, told = self.told(room, ("call", "24"))
        self.assertEqual(told, (1, (2,), ((0, 2),), 0))
        self.assertEqual(standing[0], (("in", 2), ("in", 0), ("out", "24"), ("in", 1)))
        chain = Room((0, 0, 1, 2), [card("24", (2, 3), [(0, 1), (0, 2), (1, 2)], counts=(2, 0, 0))])
        self.assertEqual(self.told(chain, ("call", "24"))[1], (1, (2, 3), ((0, 1),), 0))
        # A crew that is out does not move, not even to its own station.
        out = Room((0, 0), [card("24", (0,), [(0, 0)])])
        self.assertEqual(self.told(out, ("call", "24"))[1], (1, (0,), (), 0))

    def test_going_home_one_after_another(self):
        # Crews 0 and 1 stand in for 3 and 4; when these return, both go home.
        room = Room((0, 0, 0, 1, 2), [card("24", (3, 4), [(0, 1), (1, 2)], counts=(2, 0, 0)), card("3", (3,))])
        standing, told = self.told(room, ("call", "24"))
        self.assertEqual(told, (1, (3, 4), ((0, 1), (1, 2)), 0))
        standing, told = room.step(standing, ("back", "24"))
        self.assertEqual(told, ((3, 4), (0, 1)))
        self.assertEqual(standing, room.start())
        # Crew 0 goes home ahead of crew 1, over the standing that those ahead of it left.
        chain = Room((1, 2, 0, 0), [card("24", (), [])])
        places = (("in", 2), ("in", 0), ("in", 1), ("in", 0))
        standing, told = chain.step((places, (1,)), ("back", "24"))
        # Crew 0 finds nobody of station 2 there; crew 1 finds crew 3 at 0, and is then at 2, too late for crew 0.
        self.assertEqual(told, ((), (1,)))
        self.assertEqual(standing, ((("in", 2), ("in", 2), ("in", 1), ("in", 0)), (0,)))
        later = Room((0, 1, 2), [card("24", (), [])])
        standing, told = later.step(((("in", 1), ("in", 1), ("in", 0)), (2,)), ("back", "24"))
        # Crew 0 goes home from 1, and crew 2 then finds it at 0.
        self.assertEqual(told, ((), (0, 2)))
        self.assertEqual(standing, later.start())

    def test_back_brings_crews_to_their_own_stations(self):
        room = Room((0, 0, 1), [card("24", (2,), [(0, 1)]), card("3", (0,))])
        standing, _ = self.told(room, ("call", "24"), ("call", "3"), ("back", "3"))
        self.assertEqual(standing, ((("in", 0), ("in", 0), ("out", "24")), (1, 0)))

    def test_results_are_new(self):
        chance = random.Random(852)
        stations = (0, 1)
        one = some_card(chance, "24", stations)
        room = Room(stations, [one])
        first = room.step(room.start(), ("call", "24"))
        self.assertEqual(room.step(room.start(), ("call", "24")), first)
        self.assertEqual(room.start(), ((("in", 0), ("in", 1)), (0,)))


if __name__ == "__main__":
    unittest.main()

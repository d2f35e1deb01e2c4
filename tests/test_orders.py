"""[8.8] to [8.10] and the heading orders.py."""

import random
import time
import unittest
from unittest import mock

from tests.crews import judged, small_room, some_room, tried_rows
from wheelchorus.cards import Card
from wheelchorus.errors import TooManyStandings
from wheelchorus.orderjudge import row_fault, table_fault
from wheelchorus.orders import bare_rows, idle_crews, judge_orders, least_out
from wheelchorus.room import Room


def bare_card(number, owed=(0, 0, 0)):
    return Card(number, (), counts=(0, 0, 0), owed=owed)


def bare_room(many, *more):
    """A room whose numbers are open or not, at whatever grade, and nothing else."""
    return Room((0,), [bare_card(number) for number in "123456"[:many]] + list(more))


def plain_least_out(rows):
    found = {}
    for row, model, _ in rows:
        if row and row[-1][0] != "back":
            number = row[-1][1]
            key = (list(model.grades).index(number), number, model.grades[number])
            count = model.out.count(number)
            if key not in found or count < found[key][0]:
                found[key] = (count, row)
    return tuple(key[1:] + found[key] for key in sorted(found))


def plain_bare_rows(rows, stations):
    found = {station: None for station in sorted(set(stations))}
    for row, model, _ in rows:
        for station in found:
            if found[station] is None and not model.crews_in(station):
                found[station] = row
    return tuple(found.items())


class BesideAllRowsTest(unittest.TestCase):
    def test_small_rooms(self):
        chance = random.Random(891)
        told = {}
        for _ in range(100):
            room = small_room(chance)
            most_open = chance.randint(1, 2)
            rows = tried_rows(room, most_open)
            orders = judge_orders(room, most_open=most_open)
            self.assertEqual((orders.table, orders.events), judged(rows))
            self.assertIs(orders.is_safe, orders.events is None)
            if orders.is_safe:
                self.assertIsNone(table_fault(room, orders.table, most_open=most_open))
            else:
                self.assertIsNone(row_fault(room, orders.events, most_open=most_open))
            self.assertEqual(least_out(room, most_open=most_open), plain_least_out(rows))
            bare = bare_rows(room, most_open=most_open)
            self.assertEqual(bare, plain_bare_rows(rows, room.stations))
            idle = tuple(crew for crew in range(len(room.stations))
                         if all(model.out[crew] is None for _, model, _ in rows))
            self.assertEqual(idle_crews(room, most_open=most_open), idle)
            length = None if orders.is_safe else min(4, len(orders.events))
            told[length] = told.get(length, 0) + 1
            told["bare"] = told.get("bare", 0) + any(row for _, row in bare)
            told["idle"] = told.get("idle", 0) + (0 < len(idle) < len(room.stations))
        for key in (None, 1, 2, 3, 4, "bare", "idle"):
            self.assertGreater(told[key], 3, key)

    def test_larger_rooms_by_their_judges(self):
        chance = random.Random(892)
        told = {True: 0, False: 0, None: 0}
        for _ in range(60):
            room = some_room(chance)
            most_open = chance.randint(1, 6)
            try:
                orders = judge_orders(room, most_open=most_open)
            except TooManyStandings:
                told[None] += 1
                continue
            told[orders.is_safe] += 1
            if orders.is_safe:
                self.assertIsNone(table_fault(room, orders.table, most_open=most_open))
                self.assertEqual(len(set(orders.table)), len(orders.table))
                self.assertEqual(orders.table[0], room.start())
            else:
                self.assertIsNone(row_fault(room, orders.events, most_open=most_open))
        self.assertGreater(told[True], 3)
        self.assertGreater(told[False], 10)


class KnownTest(unittest.TestCase):
    def test_no_cards(self):
        room = Room((3, 1, 3), ())
        orders = judge_orders(room, most_open=6)
        self.assertEqual((orders.table, orders.events), ((room.start(),), None))
        self.assertEqual(least_out(room, most_open=1), ())
        self.assertEqual(bare_rows(room, most_open=1), ((1, None), (3, None)))
        self.assertEqual(idle_crews(room, most_open=1), (0, 1, 2))

    def test_order_of_the_table(self):
        room = bare_room(2)
        table = judge_orders(room, most_open=1).table
        self.assertEqual([grades for _, grades in table],
                         [(0, 0), (1, 0), (0, 1), (2, 0), (0, 2), (3, 0), (0, 3)])
        table = judge_orders(room, most_open=2).table
        self.assertEqual([grades for _, grades in table][:6], [(0, 0), (1, 0), (0, 1), (2, 0), (1, 1), (0, 2)])
        self.assertEqual(len(table), 16)

    def test_six_cards_and_six_crews_at_one_station(self):
        cards = [Card(number, (0, 1, 2, 3, 4, 5), counts=(1, 0, 0), owed=(1, 1, 1)) for number in "123456"]
        room = Room((4,) * 6, cards)
        self.assertTrue(judge_orders(room, most_open=1).is_safe)
        shifted = Room((4,) * 6, [Card("1", (0,), counts=(1, 1, 1)),
                                  Card("2", (0, 5), counts=(1, 1, 1), owed=(1, 1, 2))])
        self.assertEqual(judge_orders(shifted, most_open=2).events,
                         (("call", "1"), ("call", "2"), ("more", "2"), ("more", "2")))
        self.assertTrue(judge_orders(shifted, most_open=1).is_safe)
        self.assertEqual(idle_crews(shifted, most_open=2), (1, 2, 3, 4))
        self.assertEqual(least_out(shifted, most_open=2)[3:], (
            ("2", 1, 1, (("call", "2"),)), ("2", 2, 1, (("call", "1"), ("call", "2"), ("more", "2"))),
            ("2", 3, 1, (("call", "1"), ("call", "2"), ("more", "2"), ("more", "2")))))

    def test_short_events_do_not_end_the_other_searches(self):
        room = Room((0,), [bare_card("1", (6, 6, 6)), Card("2", (0,), counts=(1, 0, 0))])
        self.assertEqual(judge_orders(room, most_open=1).events, (("call", "1"),))
        self.assertEqual([row[:3] for row in least_out(room, most_open=1)],
                         [("1", 1, 0), ("1", 2, 0), ("1", 3, 0), ("2", 1, 1), ("2", 2, 1), ("2", 3, 1)])
        self.assertEqual(bare_rows(room, most_open=1), ((0, (("call", "2"),)),))
        self.assertEqual(idle_crews(room, most_open=1), ())

    def test_a_back_that_tells_crews_is_not_short(self):
        # What a back tells ends with the crews that went home, which is no number.
        room = Room((0, 0, 1), [Card("1", (2,), counts=(1, 0, 0), moves=[(0, 1)])])
        self.assertTrue(judge_orders(room, most_open=1).is_safe)

    def test_results_are_tuples(self):
        room = bare_room(1)
        orders = judge_orders(room, most_open=1)
        self.assertIs(type(orders.table), tuple)
        self.assertIs(type(judge_orders(bare_room(0, bare_card("1", (1, 1, 1))), most_open=1).events), tuple)
        for thing in (least_out(room, most_open=1), bare_rows(room, most_open=1), idle_crews(room, most_open=1)):
            self.assertIs(type(thing), tuple)


class BoundTest(unittest.TestCase):
    SEARCHES = (least_out, bare_rows, idle_crews)

    def check_too_many(self, call, room, most_open, count=3000):
        with self.assertRaises(TooManyStandings) as caught:
            call(room, most_open=most_open)
        self.assertEqual(caught.exception.count, count)

    def test_3000(self):
        begun = time.monotonic()
        room = bare_room(6)
        # With four numbers open at most there are 1,909 standings, with five 3,367.
        self.assertEqual(len(judge_orders(room, most_open=4).table), 1909)
        for call in self.SEARCHES:
            call(room, most_open=4)
        for call in (judge_orders,) + self.SEARCHES:
            self.check_too_many(call, room, 5)
            self.check_too_many(call, room, 6)
        self.assertLess(time.monotonic() - begun, 20)

    def test_at_the_bound(self):
        room = bare_room(2)
        for call in (judge_orders,) + self.SEARCHES:
            with mock.patch("wheelchorus.orders.MOST_STANDINGS", 16):
                call(room, most_open=2)
            with mock.patch("wheelchorus.orders.MOST_STANDINGS", 15):
                self.check_too_many(call, room, 2, 15)

    def test_a_short_event_ends_the_search_ahead_of_the_bound(self):
        # The last card is short at the first call, but only the first event of the last card tells it.
        room = bare_room(5, bare_card("6", (1, 0, 0)))
        self.assertEqual(judge_orders(room, most_open=6).events, (("call", "6"),))
        for call in self.SEARCHES:
            self.check_too_many(call, room, 6)
        # It need not lead to a standing that was met: the bound is not asked of it.
        with mock.patch("wheelchorus.orders.MOST_STANDINGS", 6):
            self.assertEqual(judge_orders(room, most_open=6).events, (("call", "6"),))
        # Here the bound comes first.
        with mock.patch("wheelchorus.orders.MOST_STANDINGS", 5):
            self.check_too_many(judge_orders, room, 6, 5)
        deep = bare_room(5, bare_card("6", (0, 0, 1)))
        for bound in range(1, 40):
            with mock.patch("wheelchorus.orders.MOST_STANDINGS", bound):
                if bound < 35:
                    self.check_too_many(judge_orders, deep, 6, bound)
        self.assertEqual(judge_orders(deep, most_open=6).events, (("call", "6"), ("more", "6"), ("more", "6")))


if __name__ == "__main__":
    unittest.main()

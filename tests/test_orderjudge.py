"""[8.11], [8.12] and the heading orderjudge.py."""

import random
import unittest

from tests import plain
from tests.crews import PlainRoom, is_short, small_room, some_room
from wheelchorus.cards import Card
from wheelchorus.orderjudge import row_fault, table_fault
from wheelchorus.orders import judge_orders
from wheelchorus.room import Room


def room_of_two():
    return Room((0, 0, 1), [Card("24", (2, 0), counts=(1, 1, 0), owed=(1, 2, 2), moves=[(0, 1)]),
                            Card("3", (1,), counts=(1, 0, 0), owed=(0, 0, 0))])


def some_model(chance, room, most_open):
    """A plain room behind some allowed events."""
    model = PlainRoom(room)
    for _ in range(chance.randint(0, 8)):
        allowed = model.allowed(most_open)
        if allowed:
            model.do(chance.choice(allowed))
    return model


class TableTest(unittest.TestCase):
    def check(self, fault, table, room=None, most_open=1):
        room = room_of_two() if room is None else room
        for things in (list(table), tuple(table)):
            self.assertEqual(table_fault(room, things, most_open=most_open), fault)

    def test_good_tables_in_any_order(self):
        table = judge_orders(room_of_two(), most_open=1).table
        self.check(None, table)
        self.check(None, table[::-1])
        self.check(None, table + table)
        self.check(None, [Room((0,), ()).start()], Room((0,), ()))

    def test_a_standing_that_is_missing(self):
        room = room_of_two()
        table = judge_orders(room, most_open=1).table
        self.assertGreater(len(table), 6)
        for index, standing in enumerate(table):
            less = table[:index] + table[index + 1:]
            if index == 0:
                self.check(("start",), less)
                continue
            expected = next(("open", at, event) for at, one in enumerate(less)
                            for event in room.allowed(one, 1) if room.step(one, event)[0] == standing)
            self.check(expected, less)
        self.check(("start",), ())
        self.check(("open", 0, ("call", "24")), [room.start()])

    def test_more_than_is_reached(self):
        # Standings that no row leads to are judged as the others are.
        room = Room((0,), [Card("24", (0,), counts=(1, 1, 1))])
        table = judge_orders(room, most_open=1).table
        other = ((("in", 0),), (2,))
        self.check(None, table + (other, ((("out", "24"),), (3,)), ((("in", 0),), (3,))), room)
        self.check(("open", 4, ("more", "24")), table + (((("in", 0),), (1,)),), Room(
            (0,), [Card("24", (0,), counts=(1, 0, 0))]))

    def test_short(self):
        room = Room((0, 1), [Card("24", (0,), counts=(1, 0, 0), owed=(1, 1, 1)),
                             Card("3", (0,), counts=(1, 1, 1), owed=(1, 0, 0))])
        table = judge_orders(room, most_open=1).table
        self.check(None, table, room)
        # With two open numbers the second call is short; it leads outside too, but that is not told.
        self.check(("short", 1, ("call", "3")), table, room, 2)
        alone = (((("in", 0), ("in", 1)), (0, 0)),)
        self.check(("open", 0, ("call", "24")), alone, room, 2)
        self.check(("short", 0, ("call", "24")), alone, Room((0, 1), [Card("24", (), counts=(0, 0, 0),
                                                                          owed=(1, 0, 0)), room.cards[1]]), 2)

    def test_what_is_no_standing(self):
        room = room_of_two()
        table = judge_orders(room, most_open=1).table
        places, grades = table[1]
        self.assertEqual((places, grades), ((("in", 1), ("in", 0), ("out", "24")), (1, 0)))
        wrong = plain.ANY_OBJECTS + plain.WHOLE_NUMBERS + (
            [places, grades], (places,), (places, grades, grades), (list(places), grades), (places, list(grades)),
            (places[:2], grades), (places + places[:1], grades), (places, (1,)), (places, (1, 0, 0)), (places, ()),
            (places, (True, 0)), (places, (1, False)), (places, (1, None)), (places, (4, 0)), (places, (-1, 0)),
            (places, ("1", 0)), (places, (0, 0)), (places, (0, 1)), (places, (1, 1)), ((), grades), (None, grades),
            (places, None), ("in", "out"), (dict(enumerate(places)), grades), ({}, {}), (places, {0: 1, 1: 0}),
        ) + tuple(((place,) + places[1:], grades) for place in (
            ["in", 1], ("in", True), ("in", False), ("in", 2), ("in", "1"), ("in", None), ("in",), ("in", 1, 1),
            ("out", "3"), ("out", "5"), ("out", 24), ("out", ["24"]), ("out", ("24",)), ("out", None), ("In", 1),
            (1, "in"), None, "in", (), ("out", {"24": 1}), (["in"], 1), (None, 1), ("in", [1]), ("out", True),
            ("Out", "24"), (None, "24"), ("", "24"),
        )) + tuple((room.start()[0], grades) for grades in ((-1, 0), (0, -1), (4, 0), (0, True), (0, "1"), [0, 0]))
        for thing in wrong:
            self.check(("standing", 1), (table[0], thing) + table[2:])
            # It comes ahead of a start that lacks and of all that is open.
            self.check(("standing", 0), [thing])
            self.check(("standing", len(table)), table + (thing, thing))
            self.check(("standing", 2), (table[1], table[1], thing))

    def test_numbers_open_at_most(self):
        room = room_of_two()
        both = ((("in", 1), ("out", "3"), ("out", "24")), (1, 1))
        self.check(("standing", 0), [both])
        self.check(("start",), [both], most_open=2)

    def test_spoilt_tables(self):
        chance = random.Random(8111)
        told = set()
        for _ in range(120):
            room = some_room(chance, 4, ("24", "3", "111"))
            most_open = chance.choice((1, 2, 6))
            found = {some_model(chance, room, most_open).standing(): True for _ in range(chance.randint(1, 6))}
            table = list(found)
            if chance.random() < 0.5:
                orders = judge_orders(room, most_open=most_open)
                table = list(orders.table if orders.is_safe else table)
                if chance.random() < 0.7:
                    table.pop(chance.randrange(len(table)))
            chance.shuffle(table)
            expected = self.expected(room, table, most_open)
            self.check(expected, table, room, most_open)
            told.add(expected and expected[0])
        self.assertEqual(told, {None, "start", "short", "open"})

    def expected(self, room, table, most_open):
        """The fault of a table that holds standings alone."""
        if PlainRoom(room).standing() not in table:
            return ("start",)
        for index, standing in enumerate(table):
            model = PlainRoom(room)
            for crew, (word, where) in enumerate(standing[0]):
                model.station[crew], model.out[crew] = (where, None) if word == "in" else (None, where)
            model.grades = dict(zip(model.grades, standing[1]))
            for event in model.allowed(most_open):
                after = model.copied()
                if is_short(event, after.do(event)):
                    return "short", index, event
                if after.standing() not in table:
                    return "open", index, event
        return None


class RowTest(unittest.TestCase):
    def check(self, fault, events, room=None, most_open=1):
        room = room_of_two() if room is None else room
        for things in (list(events), tuple(events)):
            self.assertEqual(row_fault(room, things, most_open=most_open), fault)

    def test_known(self):
        room = Room((0,), [Card("24", (0,), counts=(1, 0, 0), owed=(1, 2, 1)), Card("3", (), counts=(0, 0, 0))])
        call, more, back = ("call", "24"), ("more", "24"), ("back", "24")
        self.check(None, [call, more], room)
        self.check(None, [("call", "3"), ("back", "3"), call, back, call, more], room)
        self.check(("early", 1), [call, more, more], room)
        self.check(("early", 1), [call, more, None], room)
        self.check(("early", 1), [call, more, back, call, more], room)
        self.check(("not short",), [call], room)
        self.check(("not short",), [call, back], room)
        self.check(("not short",), [], room)
        self.check(("event", 1), [call, call], room)
        self.check(("event", 1), [call, ("call", "3")], room)
        self.check(("not short",), [call, ("call", "3")], room, 2)
        for event in (more, back, ("more", "3"), ("call", "5")):
            self.check(("event", 0), [event], room)

    def test_any_object(self):
        for thing in plain.ANY_OBJECTS + plain.WHOLE_NUMBERS + (
            ["call", "24"], ("call",), ("call", "24", 1), ("Call", "24"), ("call", 24), ("call", ["24"]), ("call", None),
            ("call", "240"), (None, "24"), (["call"], "24"), {"call": "24"}, (("call", "24"),), ("back", "24"),
        ):
            self.check(("event", 0), [thing])
            self.check(("event", 1), [("call", "3"), thing, ("more", "3")])

    def test_beside_plain_model(self):
        chance = random.Random(8121)
        told = set()
        for _ in range(600):
            room = small_room(chance)
            most_open = chance.randint(1, 2)
            model = PlainRoom(room)
            events = []
            expected = ("not short",)
            for index in range(chance.randint(0, 5)):
                allowed = model.allowed(most_open)
                if not allowed or chance.random() < 0.05:
                    events.append((chance.choice(("call", "more", "back")), chance.choice(("24", "3"))))
                else:
                    events.append(chance.choice(allowed))
                if expected in (("not short",), None):
                    if expected is None:
                        expected = ("early", index - 1)
                    elif events[-1] not in allowed:
                        expected = ("event", index)
                    elif is_short(events[-1], model.do(events[-1])):
                        expected = None
                if expected not in (("not short",), None):
                    break
            self.check(expected, events, room, most_open)
            told.add(expected and expected[0])
        self.assertEqual(told, {None, "event", "early", "not short"})


if __name__ == "__main__":
    unittest.main()

"""[8.7] and the heading watch.py."""

import random
import unittest

from tests import plain
from tests.crews import PlainRoom, some_room
from wheelchorus.cards import read_card
from wheelchorus.errors import NoCall, NoPlace, TopGrade
from wheelchorus.room import Room
from wheelchorus.watch import Watch

NOT_CARDS = plain.ANY_OBJECTS + plain.WHOLE_NUMBERS + ("2", "5", "24 ", 24, ("24",), ["24"], {"24": "24"})


def small():
    cards = [read_card("24: 0 2 / 1 1 1 / 0 0 0 / 1>0"), read_card("3: - / 0 0 0 / 1 0 0")]
    return Watch(Room((0, 1, 1), cards))


class WatchTest(unittest.TestCase):
    def told(self, watch):
        return watch.standing, [watch.grade(number) for number in ("24", "3")], watch.out_to("24")

    def test_beside_plain_model(self):
        chance = random.Random(871)
        words = set()
        for _ in range(150):
            room = some_room(chance)
            watch, model = Watch(room), PlainRoom(room)
            for _ in range(30):
                for number in room.numbers:
                    self.assertEqual(watch.grade(number), model.grades[number])
                    out = tuple(crew for crew, where in enumerate(model.out) if where == number)
                    self.assertEqual(watch.out_to(number), out)
                self.assertEqual(watch.standing, model.standing())
                self.assertEqual(tuple(map(watch.place, range(len(room.stations)))), model.standing()[0])
                number = chance.choice(room.numbers + ("8",))
                word = chance.choice(("call", "call", "more", "back"))
                grade = model.grades.get(number, 0)
                if word == "call":
                    self.assertEqual(watch.call(number), model.do((word, number)) if number in room.numbers else None)
                elif grade == 0 or word == "more" and grade == 3:
                    with self.assertRaises(NoCall if grade == 0 else TopGrade) as caught:
                        getattr(watch, word)(number)
                    self.assertEqual(caught.exception.number, number)
                    words.add((word, grade))
                else:
                    self.assertEqual(getattr(watch, word)(number), model.do((word, number)))
        self.assertEqual(words, {("more", 0), ("back", 0), ("more", 3)})

    def test_known(self):
        watch = small()
        self.assertEqual(self.told(watch), (((("in", 0), ("in", 1), ("in", 1)), (0, 0)), [0, 0], ()))
        self.assertEqual(watch.call("24"), (1, (0,), ((1, 0),), 0))
        self.assertIsNone(watch.call("24"))
        self.assertEqual(watch.more("24"), (2, (2,), (), 0))
        self.assertEqual(watch.out_to("24"), (0, 2))
        self.assertEqual(watch.more("24"), (3, (), (), 0))
        self.assertIsNone(watch.call("24"))
        self.assertEqual(watch.call("3"), (1, (), (), 1))
        self.assertEqual(watch.standing, ((("out", "24"), ("in", 0), ("out", "24")), (3, 1)))
        self.assertEqual(watch.back("24"), ((0, 2), (1,)))
        self.assertEqual(watch.standing, ((("in", 0), ("in", 1), ("in", 1)), (0, 1)))
        self.assertEqual(watch.call("24"), (1, (0,), ((1, 0),), 0))

    def test_call_each(self):
        """As the calls one by one: in the order given, without the numbers that were open or have no card."""
        watch, other = small(), small()
        self.assertEqual(watch.call_each(()), [])
        expected = [("3", other.call("3")), ("24", other.call("24"))]
        self.assertEqual(watch.call_each(("12", "3", "24", "3")), expected)
        self.assertEqual(watch.standing, other.standing)
        self.assertEqual(watch.call_each(("24", "3")), [])
        self.assertEqual(watch.standing, other.standing)

    def test_objects_that_are_not_the_number_of_a_card(self):
        watch = small()
        watch.call("24")
        before = self.told(watch)
        for thing in NOT_CARDS:
            self.assertIsNone(watch.call(thing))
            self.assertEqual(watch.grade(thing), 0)
            self.assertEqual(watch.out_to(thing), ())
            for method in (watch.more, watch.back):
                with self.assertRaises(NoCall) as caught:
                    method(thing)
                self.assertIs(caught.exception.number, thing)
            self.assertEqual(self.told(watch), before)

    def test_errors_change_nothing(self):
        watch = small()
        for method in (watch.more, watch.back):
            with self.assertRaises(NoCall) as caught:
                method("3")
            self.assertEqual(caught.exception.number, "3")
        for _ in range(2):
            watch.call("24")
            watch.more("24")
            watch.more("24")
            before = self.told(watch)
            with self.assertRaises(TopGrade) as caught:
                watch.more("24")
            self.assertEqual(caught.exception.number, "24")
            self.assertEqual(self.told(watch), before)
            watch.back("24")
            with self.assertRaises(NoCall):
                watch.back("24")

    def test_place(self):
        watch = small()
        self.assertEqual([watch.place(crew) for crew in (0, 1, 2)], [("in", 0), ("in", 1), ("in", 1)])
        for thing in plain.ANY_OBJECTS + (-1, 3, 10 ** 39, -10 ** 39, "0", (0,)):
            with self.assertRaises(NoPlace) as caught:
                watch.place(thing)
            self.assertIs(caught.exception.crew, thing)

    def test_two_watches_have_nothing_in_common(self):
        room = small()._room
        one, other = Watch(room), Watch(room)
        one.call("24")
        self.assertEqual(other.standing, room.start())
        self.assertEqual(other.call("24"), (1, (0,), ((1, 0),), 0))


if __name__ == "__main__":
    unittest.main()

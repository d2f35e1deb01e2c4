"""[3.6], [3.8], [3.9] and [3.13]: lines beside a plain model, and what follows."""

import random
import unittest

from tests import plain
from wheelchorus.line import Line
from wheelchorus.parts import wires
from wheelchorus.tapes import walk_pieces
from wheelchorus.town import Town
from wheelchorus.waiting import most_ticks


def some_town(chance, sorts=("plain", "shy"), most_boxes=10):
    return Town(plain.some_loops(chance, sorts, most_boxes), rounds=chance.randint(1, 8))


class ModelTest(unittest.TestCase):
    def play_both(self, chance, town, ticks, busy):
        line, model = Line(town), plain.PlainLine(town)
        self.assertEqual(plain.line_told(line), model.told())
        for _ in range(ticks):
            while chance.random() < busy:
                deed = plain.some_deed(chance, model)
                told = model.do(deed)
                self.assertIs(getattr(line, deed[0])(*deed[1:]) if chance.random() < 0.5 else line.do(deed), told)
                self.assertEqual(plain.line_told(line), model.told())
            self.assertEqual(line.tick(), model.tick())
            self.assertEqual(line.last_signs, model.told()[3])
            self.assertEqual([line.box(number) for number in town.numbers],
                             [model.standing(number) for number in town.numbers])
        self.assertEqual(plain.line_told(line), model.told())
        for loop, (near, far) in enumerate(line.tapes):
            self.assertEqual(line.near_tape(loop), near)
            self.assertEqual(line.far_tape(loop), far)

    def test_many_lines_with_many_deeds(self):
        chance = random.Random(20)
        for _ in range(60):
            self.play_both(chance, some_town(chance, most_boxes=4), 150, 0.1)

    def test_lines_with_few_deeds(self):
        chance = random.Random(21)
        for _ in range(25):
            self.play_both(chance, some_town(chance, most_boxes=6), 400, 0.02)

    def test_lines_of_one_sort(self):
        chance = random.Random(22)
        for sort in ("plain", "shy"):
            for _ in range(10):
                self.play_both(chance, some_town(chance, (sort,), 3), 300, 0.05)

    def test_the_greatest_line(self):
        chance = random.Random(23)
        numbers = chance.sample(plain.ALL_NUMBERS, 30)
        loops = [[(numbers.pop(), chance.choice(("plain", "shy"))) for _ in range(10)] for _ in range(3)]
        line, model = Line(Town(loops, rounds=8)), plain.PlainLine(Town(loops, rounds=8))
        sent = []
        for tick in range(3000):
            if tick < 2000 and tick % 5 == 0:
                deed = plain.some_deed(chance, model)
                model.do(deed)
                line.do(deed)
            sent += line.tick()
            # Behind this, the model only tells which deeds are possible.
            if tick < 300:
                model.tick()
                self.assertEqual(plain.line_told(line), model.told())
        self.assertEqual(line.clock, 3000)
        self.assertEqual([len(tape) for pair in line.tapes for tape in pair], [3000] * 6)
        self.assertTrue(sent)


class TickTest(unittest.TestCase):
    def test_a_new_line(self):
        line = Line(Town([[("1", "plain")], [("2", "shy"), ("3", "plain")]], rounds=2))
        self.assertEqual(plain.line_told(line), (
            0, False, ((), ()), (), (((), ()), ((), ())), ((0, 0, None, 0),) * 3,
        ))
        self.assertEqual((line.near_tape(1), line.far_tape(0)), ((), ()))
        self.assertEqual(line.town, Town([[("1", "plain")], [("2", "shy"), ("3", "plain")]], rounds=2))

    def test_one_plain_box(self):
        line = Line(Town([[("12", "plain")]], rounds=2))
        self.assertIs(line.pull("12"), True)
        self.assertIs(line.pull("12"), False)
        sent = list(line.ticks(26))
        self.assertEqual([tick for tick, numbers in enumerate(sent) if numbers], [11, 23])
        self.assertEqual(sent[11], ("12",))
        self.assertEqual(line.near_tape(0), tuple(plain.row("12") * 2 + [0, 0]))
        self.assertEqual(line.far_tape(0), line.near_tape(0))

    def test_sent_numbers_are_ascending(self):
        line = Line(Town([[("21", "plain"), ("12", "plain")], [("111", "plain"), ("3", "plain")]], rounds=1))
        for number in ("21", "3", "111", "12"):
            line.pull(number)
        sent = list(line.ticks(14))
        # Rows of 8, 10 and 12 ticks.
        expected = {}
        for number in ("111", "12", "21", "3"):
            expected.setdefault(len(plain.row(number)) - 1, []).append(number)
        self.assertEqual({tick: list(numbers) for tick, numbers in enumerate(sent) if numbers},
                         {tick: sorted(numbers) for tick, numbers in expected.items()})
        self.assertIn(("12", "21"), sent)

    def test_the_key_is_held_for_two_ticks_and_anew_by_the_next_deed(self):
        line = Line(Town([[("1", "plain")], [("2", "plain")]], rounds=1))
        self.assertIsNone(line.cut(0, 0))
        list(line.ticks(3))
        self.assertIsNone(line.mend(0, 0))
        line.tick()
        self.assertIsNone(line.cut(0, 1))
        self.assertIsNone(line.cut(0, 0))
        list(line.ticks(3))
        self.assertEqual(line.near_tape(0), (2, 2, 0, 2, 2, 2, 0))
        self.assertEqual(line.far_tape(0), (2, 2, 0, 2, 2, 2, 0))
        self.assertEqual(line.near_tape(1), (0,) * 7)
        self.assertIsNone(line.join())
        line.tick()
        self.assertIsNone(line.part())
        list(line.ticks(3))
        self.assertEqual(line.tapes[0][0][7:], (2, 2, 2, 0))
        self.assertEqual(line.tapes[1][1][7:], (2, 2, 2, 0))

    def test_deeds_in_a_joined_town_hold_the_key_on_all_loops(self):
        line = Line(Town([[("1", "plain")], [("2", "plain")]], rounds=1))
        line.join()
        list(line.ticks(4))
        line.cut(1, 0)
        list(line.ticks(3))
        line.mend(1, 0)
        list(line.ticks(3))
        self.assertEqual(line.near_tape(0), (2, 2, 0, 0, 2, 2, 0, 2, 2, 0))
        self.assertEqual(line.far_tape(1), (2, 2, 0, 0, 2, 2, 0, 2, 2, 0))

    def test_the_key_hides_strokes_and_drives_shy_boxes_back(self):
        line = Line(Town([[("1", "shy"), ("2", "plain")]], rounds=1))
        list(line.ticks(8))
        line.pull("1")
        line.tick()
        self.assertEqual(line.box("1"), (1, 0, 1, 0))
        line.cut(0, 2)
        line.tick()
        self.assertEqual(line.box("1"), (1, 0, None, 0))
        self.assertEqual(line.near_tape(0)[8:], (1, 2))

    def test_a_joined_town_with_cuts(self):
        line = Line(Town([[("1", "plain")], [("2", "plain"), ("3", "plain")]], rounds=1))
        line.cut(0, 0)
        line.cut(0, 1)
        line.join()
        list(line.ticks(2))
        line.pull("3")
        line.pull("1")
        list(line.ticks(6))
        # Box 1 is dumb; loop 0 has no boxes on the wire, yet the wire is at both its ends.
        for pair in line.tapes:
            for tape in pair:
                self.assertEqual(tape[2:], tuple(plain.row("3")[:6]))
        self.assertEqual(line.box("1"), (0, 0, None, 0))

    def test_dumb_boxes(self):
        line = Line(Town([[("1", "shy"), ("2", "plain"), ("3", "shy")]], rounds=1))
        list(line.ticks(8))
        line.cut(0, 1)
        line.cut(0, 2)
        line.pull("2")
        line.pull("3")
        self.assertEqual(list(line.ticks(8))[-1], ("2",))
        self.assertEqual(line.near_tape(0)[8:], (2, 2) + (0,) * 6)
        self.assertEqual(line.far_tape(0)[8:], (2, 2) + (0,) * 6)
        line = Line(Town([[("1", "shy"), ("2", "shy"), ("3", "shy")]], rounds=1))
        list(line.ticks(8))
        line.cut(0, 1)
        line.cut(0, 2)
        line.pull("2")
        list(line.ticks(20))
        self.assertEqual(line.box("2"), (1, 0, None, 0))
        self.assertEqual(line.box("1"), (0, 0, None, 16))

    def test_a_shy_box_begins_under_the_key_and_steps_back(self):
        line = Line(Town([[("12", "shy")]], rounds=1))
        list(line.ticks(8))
        line.pull("12")
        line.cut(0, 0)
        line.tick()
        self.assertEqual(line.box("12"), (1, 0, 1, 0))
        line.tick()
        self.assertEqual(line.box("12"), (1, 0, None, 0))

    def test_ticks_are_done_when_asked_for(self):
        line = Line(Town([[("1", "plain")]], rounds=1))
        self.assertEqual(list(line.ticks(0)), [])
        ticks = line.ticks(8)
        self.assertEqual(line.clock, 0)
        self.assertEqual(next(ticks), ())
        self.assertEqual(line.clock, 1)
        line.pull("1")
        self.assertEqual([next(ticks) for _ in range(5)], [()] * 5)
        line.cut(0, 0)
        self.assertEqual(list(ticks), [("1",), ()])
        self.assertEqual(line.clock, 8)
        self.assertEqual(line.near_tape(0), (0, 1, 0, 0, 0, 0, 2, 2))

    def test_what_is_told_does_not_change_later(self):
        line = Line(Town([[("1", "plain")]], rounds=1))
        line.pull("1")
        line.tick()
        told = plain.line_told(line)
        kept = (1, False, ((),), (1, 1), (((1,), (1,)),), ((1, 0, 1, 0),))
        self.assertEqual(told, kept)
        line.cut(0, 0)
        line.tick()
        self.assertEqual(told, kept)

    def test_two_lines_of_one_town_have_nothing_in_common(self):
        town = Town([[("1", "plain")], [("2", "shy")]], rounds=1)
        one, other = Line(town), Line(town)
        one.pull("1")
        one.cut(1, 0)
        one.join()
        list(one.ticks(3))
        self.assertEqual(plain.line_told(other), plain.line_told(Line(town)))


class WhatFollowsTest(unittest.TestCase):
    """[3.13], asked of many lines."""

    def test_boxes_on_one_wire_have_the_same_quiet(self):
        chance = random.Random(24)
        for _ in range(40):
            town = some_town(chance, ("plain", "shy", "shy"), 4)
            line, model = Line(town), plain.PlainLine(town)
            for _ in range(200):
                if chance.random() < 0.1:
                    deed = plain.some_deed(chance, model)
                    model.do(deed)
                    line.do(deed)
                now = wires(town, line.cuts, line.is_joined)
                line.tick()
                for wire in now:
                    shy = [number for number in wire if town.sort_of(number) == "shy"]
                    self.assertLessEqual(len({line.box(number)[3] for number in shy}), 1)

    def test_rounds_read_on_shy_lines_were_sent_and_all_come_to_rest(self):
        chance = random.Random(25)
        rounds = 0
        for _ in range(40):
            town = some_town(chance, ("shy",), 4)
            line, model = Line(town), plain.PlainLine(town)
            sent = []
            last = 0
            for tick in range(chance.randint(1, 200)):
                if chance.random() < 0.08:
                    deed = plain.some_deed(chance, model)
                    model.do(deed)
                    line.do(deed)
                    last = tick
                sent.append(line.tick())
            now = wires(town, line.cuts, line.is_joined)
            ends = {wire: last + 2 + most_ticks(town.rounds, wire) for wire in now}
            while line.clock < max(ends.values()):
                sent.append(line.tick())
                for wire, end in ends.items():
                    if line.clock >= end:
                        self.assertEqual({line.box(number)[0] for number in wire} or {0}, {0})
            for tape in [tape for pair in line.tapes for tape in pair]:
                for at, (word, worth) in walk_pieces(tape):
                    self.assertNotEqual(word, "odd")
                    if word == "round":
                        rounds += 1
                        self.assertIn(worth, sent[at + len(plain.row(worth)) - 1])
        self.assertGreater(rounds, 100)

    def test_the_tick_of_the_last_round(self):
        chance = random.Random(26)
        for _ in range(40):
            numbers = chance.sample(plain.ALL_NUMBERS, chance.randint(1, 10))
            rounds = chance.randint(1, 8)
            line = Line(Town([[(number, "shy") for number in numbers]], rounds=rounds))
            pulled = chance.sample(numbers, chance.randint(1, len(numbers)))
            for number in pulled:
                line.pull(number)
            end = most_ticks(rounds, pulled)
            sent = list(line.ticks(end + 30))
            self.assertEqual(max(tick for tick, found in enumerate(sent) if found), end - 1)
            self.assertEqual(sum(map(len, sent)), rounds * len(pulled))


if __name__ == "__main__":
    unittest.main()

"""[3.12] and the heading waiting.py."""

import random
import unittest

from tests import plain
from wheelchorus.boxes import wheel
from wheelchorus.line import Line
from wheelchorus.town import Town
from wheelchorus.waiting import due_rounds, meeting, most_ticks


def played_meeting(numbers):
    """The places at which boxes that begin at one tick step back, found by playing their wheels."""
    boxes = {}
    for number in numbers:
        boxes[number] = wheel(number, "shy", 1)
        for _ in range(8):
            boxes[number](False)
        boxes[number].pull()
        boxes[number].begin()
    leaves = {number: None for number in numbers}
    for place in range(58):
        broken = any(box.breaks for box in boxes.values())
        for number, box in boxes.items():
            stands = box.standing[2] is None
            sent = box(broken)
            if not stands and box.standing[2] is None and not sent:
                leaves[number] = place
    return leaves


def played_rounds(rounds, pulls):
    """The rounds that a line sends, by playing it until all boxes rest."""
    numbers = sorted({number for _, number in pulls})
    line = Line(Town([[(number, "shy") for number in numbers]], rounds=rounds))
    waiting = list(pulls)
    found = []
    while waiting or any(line.box(number)[0] for number in numbers):
        while waiting and waiting[0][0] == line.clock:
            line.pull(waiting.pop(0)[1])
        tick = line.clock
        found += [(tick + 1 - len(plain.row(number)), number) for number in line.tick()]
    return tuple(sorted(found))


class MeetingTest(unittest.TestCase):
    def test_known_meetings(self):
        self.assertEqual(meeting(["12"]), ("12", (None,)))
        self.assertEqual(meeting(("1", "2", "11", "3")), ("3", (2, 4, 2, None)))
        self.assertEqual(meeting(["11", "12", "1"]), ("12", (6, None, 4)))

    def test_beside_boxes_that_meet(self):
        chance = random.Random(36)
        for many in [1, 2, 3, 30] * 40:
            pool = plain.ALL_NUMBERS if chance.random() < 0.5 else plain.ALL_NUMBERS[:120]
            numbers = chance.sample(pool, many)
            leaves = played_meeting(numbers)
            kept = list(numbers)
            first, places = meeting(numbers)
            self.assertEqual(numbers, kept)
            self.assertIs(type(places), tuple)
            self.assertEqual(places, tuple(leaves[number] for number in numbers))
            self.assertEqual([number for number in numbers if leaves[number] is None], [first])
            self.assertEqual(meeting(tuple(numbers)), (first, places))


class DueRoundsTest(unittest.TestCase):
    def test_known_rounds(self):
        self.assertEqual(due_rounds(2, []), ())
        # Eight closed ticks ahead of the first round, five and four more ahead of the second one.
        self.assertEqual(due_rounds(2, [(0, "1")]), ((8, "1"), (18, "1")))
        self.assertEqual(due_rounds(1, [(100, "1")]), ((100, "1"),))
        self.assertEqual(due_rounds(1, [(0, "1"), (0, "2")]), ((8, "2"), (19, "1")))
        self.assertEqual(due_rounds(1, [(8, "1"), (8, "2")]), ((8, "2"), (19, "1")))
        self.assertEqual(due_rounds(1, [(8, "1"), (9, "2")]), ((8, "1"), (17, "2")))

    def test_pulls_while_the_last_round_is_being_sent(self):
        # The round of "1" has the ticks 8 to 13.
        for tick in range(0, 14):
            self.assertEqual(due_rounds(1, [(0, "1"), (tick, "1")]), ((8, "1"),))
        self.assertEqual(due_rounds(1, [(0, "1"), (14, "1")]), ((8, "1"), (17, "1")))
        self.assertEqual(due_rounds(1, [(0, "1"), (13, "1"), (14, "1")]), ((8, "1"), (17, "1")))
        self.assertEqual(due_rounds(2, [(0, "1"), (23, "1")]), ((8, "1"), (18, "1")))
        self.assertEqual(due_rounds(2, [(0, "1"), (24, "1")]), ((8, "1"), (18, "1"), (27, "1"), (37, "1")))

    def test_rounds_sent_make_a_number_wait_longer(self):
        # "9" has gone ahead once and then waits for nine closed ticks, so "1" sends with its eight.
        found = due_rounds(2, [(0, "9"), (0, "1")])
        self.assertEqual([number for _, number in found], ["9", "1", "9", "1"])
        found = due_rounds(3, [(0, "1"), (0, "2")])
        self.assertEqual([number for _, number in found], ["2", "1", "2", "1", "2", "1"])

    def test_beside_lines(self):
        chance = random.Random(37)
        for _ in range(150):
            numbers = chance.sample(plain.ALL_NUMBERS, chance.randint(1, 10))
            last = chance.choice((5, 60, 400, 2000))
            ticks = sorted(chance.randint(0, last) for _ in range(chance.randint(1, 30)))
            pulls = [(tick, chance.choice(numbers)) for tick in ticks]
            rounds = chance.randint(1, 8)
            kept = list(pulls)
            self.assertEqual(due_rounds(rounds, pulls), played_rounds(rounds, pulls))
            self.assertEqual(due_rounds(rounds, tuple(pulls)), due_rounds(rounds, pulls))
            self.assertEqual(pulls, kept)

    def test_beside_lines_with_pulls_about_the_ends_of_rounds(self):
        chance = random.Random(38)
        for _ in range(150):
            numbers = chance.sample(plain.ALL_NUMBERS[:90], chance.randint(1, 4))
            rounds = chance.randint(1, 3)
            pulls = [(chance.randint(0, 20), chance.choice(numbers))]
            for _ in range(6):
                tick, number = chance.choice(due_rounds(rounds, pulls))
                tick += len(plain.row(number)) + chance.randint(-3, 12)
                pulls.append((max(tick, pulls[-1][0]), chance.choice(numbers)))
            self.assertEqual(due_rounds(rounds, pulls), played_rounds(rounds, pulls))


class MostTicksTest(unittest.TestCase):
    def test_known_sums(self):
        self.assertEqual(most_ticks(3, ()), 5)
        self.assertEqual(most_ticks(1, ["1"]), 5 + 6 + 3)
        self.assertEqual(most_ticks(2, ["1"]), 5 + (6 + 3) + (6 + 3 + 1))
        self.assertEqual(most_ticks(2, ("1", "12")), 5 + 9 + 10 + 15 + 16)

    def test_many_sums(self):
        for seed in range(30):
            numbers = plain.some_numbers(seed, seed + 1)
            for rounds in range(1, 9):
                expected = 5 + sum(len(plain.row(number)) + 3 + sent for number in numbers for sent in range(rounds))
                self.assertEqual(most_ticks(rounds, numbers), expected)


if __name__ == "__main__":
    unittest.main()

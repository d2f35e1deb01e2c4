"""[3.1] to [3.4] and the heading boxes.py."""

import random
import unittest

from tests import plain
from wheelchorus.boxes import PlainBox, ShyBox, WheelBox, wheel


def ready(number, rounds, quiet=8):
    """A shy box that was pulled behind so many closed ticks."""
    box = wheel(number, "shy", rounds)
    for _ in range(quiet):
        box.begin()
        box(False)
    box.pull()
    return box


def run_round(box):
    """Ends ticks, felt as the own contact is, until a round is sent; returns how many."""
    many = 0
    while True:
        many += 1
        box.begin()
        if box(box.breaks):
            return many


class MakingTest(unittest.TestCase):
    def test_sorts(self):
        self.assertIs(type(wheel("12", "plain", 2)), PlainBox)
        self.assertIs(type(wheel("12", "shy", 2)), ShyBox)
        self.assertTrue(issubclass(PlainBox, WheelBox))
        self.assertTrue(issubclass(ShyBox, WheelBox))
        self.assertEqual(wheel("12", "shy", 2).number, "12")
        self.assertEqual(type(PlainBox("12", 3)), PlainBox)

    def test_a_new_box(self):
        for sort in ("plain", "shy"):
            box = wheel("12", sort, 2)
            self.assertEqual(box.standing, (0, 0, None, 0))
            self.assertIs(box.breaks, False)
            self.assertIs(box.can_begin(), False)
            self.assertIsNone(box.begin())
            self.assertEqual(box.standing, (0, 0, None, 0))


class PullTest(unittest.TestCase):
    def test_pull(self):
        for sort in ("plain", "shy"):
            for rounds in (1, 8):
                box = wheel("12", sort, rounds)
                self.assertIs(box.pull(), True)
                self.assertEqual(box.standing, (rounds, 0, None, 0))
                self.assertIs(box.pull(), False)
                self.assertEqual(box.standing, (rounds, 0, None, 0))

    def test_pull_while_the_last_round_is_being_sent(self):
        box = wheel("1", "plain", 2)
        box.pull()
        run_round(box)
        for place in range(6):
            box.begin()
            self.assertIs(box.pull(), False)
            self.assertEqual(box.standing, (1, 1, place, 0))
            self.assertIs(box(False), place == 5)
        self.assertEqual(box.standing, (0, 0, None, 0))
        self.assertIs(box.pull(), True)
        self.assertEqual(box.standing, (2, 0, None, 0))


class PlainBoxTest(unittest.TestCase):
    def test_it_turns_at_once_and_whatever_it_feels(self):
        for number in plain.some_numbers(17, 30):
            row = plain.row(number)
            box = wheel(number, "plain", 3)
            box.pull()
            chance = random.Random(number)
            for sent in range(3):
                for place, sign in enumerate(row):
                    self.assertIs(box.can_begin(), place == 0)
                    box.begin()
                    self.assertEqual(box.standing, (3 - sent, sent, place, 0))
                    self.assertIs(box.breaks, sign == 1)
                    self.assertIs(box.can_begin(), False)
                    self.assertIs(box(chance.random() < 0.5), place == len(row) - 1)
            self.assertEqual(box.standing, (0, 0, None, 0))
            self.assertIs(box.breaks, False)

    def test_a_box_at_rest_stays_so(self):
        box = wheel("12", "plain", 2)
        for broken in (True, False, True):
            box.begin()
            self.assertIs(box(broken), False)
            self.assertEqual(box.standing, (0, 0, None, 0))

    def test_a_wheel_goes_on_without_begin(self):
        box = wheel("1", "plain", 1)
        box.pull()
        self.assertIs(box(False), False)
        self.assertEqual(box.standing, (1, 0, None, 0))
        box.begin()
        box.begin()
        self.assertEqual(box.standing, (1, 0, 0, 0))


class ShyBoxTest(unittest.TestCase):
    def test_quiet_is_counted_up_to_16(self):
        box = wheel("12", "shy", 2)
        for tick in range(20):
            self.assertEqual(box.standing, (0, 0, None, min(tick, 16)))
            self.assertIs(box(False), False)
        box(True)
        self.assertEqual(box.standing, (0, 0, None, 0))
        box(False)
        self.assertEqual(box.standing, (0, 0, None, 1))

    def test_it_begins_at_8_and_not_at_7(self):
        box = ready("12", 2, quiet=7)
        self.assertIs(box.can_begin(), False)
        box.begin()
        self.assertEqual(box.standing, (2, 0, None, 7))
        box(False)
        self.assertIs(box.can_begin(), True)
        box.begin()
        self.assertEqual(box.standing, (2, 0, 0, 8))
        self.assertIs(box.can_begin(), False)

    def test_8_and_one_more_for_each_round_sent(self):
        box = ready("1", 8)
        self.assertEqual(run_round(box), 6)
        for sent in range(1, 8):
            # Five closed ticks ended the row.
            for quiet in range(5, 8 + sent):
                self.assertEqual(box.standing, (8 - sent, sent, None, quiet))
                self.assertIs(box.can_begin(), False)
                box.begin()
                box(False)
            self.assertEqual(box.standing, (8 - sent, sent, None, 8 + sent))
            self.assertIs(box.can_begin(), True)
            self.assertEqual(run_round(box), 6)
        self.assertEqual(box.standing, (0, 0, None, 5))

    def test_quiet_goes_on_while_it_turns(self):
        box = ready("1", 1, quiet=16)
        box.begin()
        self.assertEqual(box.standing, (1, 0, 0, 16))
        box(True)
        self.assertEqual(box.standing, (1, 0, 1, 0))
        box(False)
        self.assertEqual(box.standing, (1, 0, 2, 1))

    def test_it_steps_back_at_any_closed_tick_up_to_the_last_one(self):
        row = plain.row("12")
        for end in range(len(row)):
            box = ready("12", 2)
            box.begin()
            for place in range(end):
                self.assertIs(box(row[place] == 1), False)
            self.assertEqual(box.standing[:3], (2, 0, end))
            self.assertIs(box.breaks, row[end] == 1)
            self.assertIs(box(True), False)
            place = end + 1 if row[end] else None
            self.assertEqual(box.standing, (2, 0, place, 0))
            self.assertIs(box.can_begin(), False)

    def test_it_steps_back_with_the_rounds_it_has_sent(self):
        box = ready("1", 3)
        run_round(box)
        while not box.can_begin():
            box(False)
        box.begin()
        box(True)
        box(True)
        self.assertEqual(box.standing, (2, 1, None, 0))
        for _ in range(8):
            box(False)
        self.assertIs(box.can_begin(), False)
        box(False)
        self.assertIs(box.can_begin(), True)

    def test_a_whole_round_beside_strokes_where_its_own_are(self):
        box = ready("31", 1)
        self.assertEqual(run_round(box), len(plain.row("31")))
        self.assertEqual(box.standing, (0, 0, None, 5))

    def test_beside_a_plain_model(self):
        chance = random.Random(18)
        for _ in range(60):
            number, rounds = chance.choice(plain.ALL_NUMBERS), chance.randint(1, 8)
            row = plain.row(number)
            box = wheel(number, "shy", rounds)
            left, sent, place, quiet = 0, 0, None, 0
            for _ in range(400):
                if chance.random() < 0.02:
                    self.assertIs(box.pull(), left == 0)
                    left, sent = (rounds, 0) if left == 0 else (left, sent)
                if place is None and left > 0 and quiet >= 8 + sent:
                    place = 0
                box.begin()
                own = place is not None and row[place] == 1
                self.assertIs(box.breaks, own)
                broken = own or chance.random() < 0.01
                done = False
                if place is not None and broken and not own:
                    place = None
                elif place is not None:
                    place += 1
                    if place == len(row):
                        done, place, left = True, None, left - 1
                        sent = sent + 1 if left else 0
                quiet = 0 if broken else min(16, quiet + 1)
                self.assertIs(box(broken), done)
                self.assertEqual(box.standing, (left, sent, place, quiet))


class CopiedTest(unittest.TestCase):
    def test_copies_have_nothing_in_common(self):
        chance = random.Random(19)
        for sort in ("plain", "shy"):
            box = wheel("12", sort, 3)
            for _ in range(200):
                if chance.random() < 0.05:
                    box.pull()
                box.begin()
                box(box.breaks)
                copy = box.copied()
                self.assertIs(type(copy), type(box))
                self.assertEqual((copy.number, copy.standing), (box.number, box.standing))
                standing = box.standing
                copy.pull()
                copy.begin()
                copy(True)
                self.assertEqual(box.standing, standing)
                other = box.copied()
                kept = other.standing
                self.assertEqual(other.pull(), box.pull())
                self.assertEqual(other.standing, box.standing)
                self.assertEqual(kept, standing)

    def test_a_copy_sends_as_many_rounds(self):
        for sort in ("plain", "shy"):
            copy = wheel("1", sort, 5).copied()
            copy.pull()
            self.assertEqual(copy.standing, (5, 0, None, 0))


if __name__ == "__main__":
    unittest.main()

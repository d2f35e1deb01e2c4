"""[1.9], [1.10] and the heading towntext.py."""

import random
import unittest

from tests import plain
from wheelchorus.errors import BadRow, BadTown
from wheelchorus.town import Town
from wheelchorus.towntext import read_town, town_text

TEXT = "rounds 3 hear 2\nloop 24 plain, 3 shy\nloop 2111 shy"


def loop_row(many, start=1):
    return "loop " + ", ".join(f"{number} plain" for number in plain.ALL_NUMBERS[start:start + many])


class TextTest(unittest.TestCase):
    def check_bad(self, text, row, what):
        with self.assertRaises(BadRow) as caught:
            read_town(text)
        error = caught.exception
        self.assertEqual((error.row, error.what), (row, what), text)
        if what in ("head", "loop"):
            self.assertIsNone(error.__cause__)
        else:
            self.assertIs(type(error.__cause__), BadTown)
            self.assertEqual(error.__cause__.what, what)

    def test_the_example(self):
        town = Town([[("24", "plain"), ("3", "shy")], [("2111", "shy")]], rounds=3, hear=2)
        self.assertEqual(town_text(town), TEXT)
        self.assertEqual(read_town(TEXT), town)

    def test_there_and_back(self):
        chance = random.Random(5)
        for _ in range(200):
            rounds = chance.randint(1, 8)
            loops = plain.some_loops(chance, short=False)
            town = Town(loops, rounds=rounds, hear=chance.randint(1, min(2, rounds)))
            rows = [f"rounds {rounds} hear {town.hear}"]
            rows += ["loop " + ", ".join(" ".join(box) for box in loop) for loop in loops]
            self.assertEqual(town_text(town), "\n".join(rows))
            self.assertEqual(read_town(town_text(town)), town)

    def test_least_and_greatest_towns(self):
        self.assertEqual(read_town("rounds 1 hear 1\nloop 1 shy"), Town([[("1", "shy")]], rounds=1))
        town = read_town("\n".join(["rounds 8 hear 2", loop_row(10), loop_row(10, 20), loop_row(10, 40)]))
        self.assertEqual(len(town.numbers), 30)

    def test_head(self):
        for head in ("", " ", "rounds 3 hear", "rounds  3 hear 2", "rounds 3  hear 2", "rounds 3 hear  2",
                     " rounds 3 hear 2", "rounds 3 hear 2 ", "round 3 hear 2", "rounds 3 Hear 2", "rounds 33 hear 2",
                     "rounds 3 hear 12", "rounds 3 hear x", "rounds x hear 2", "rounds -3 hear 2", "rounds 3 hear ",
                     "rounds  hear 2", "rounds 3 hear 2 hear 2", "rounds\t3 hear 2", "loop 24 plain",
                     "rounds 3, hear 2", "rounds \u0663 hear 2", "rounds \u00b3 hear 2", "rounds 3 hear 2\r"):
            self.check_bad(head, 0, "head")
            self.check_bad(head + "\nloop 24 plain", 0, "head")
            self.check_bad(head + "\nloop 24", 0, "head")

    def test_loop_rows(self):
        for row in ("", " ", "loop", "loop ", "loop  24 plain", " loop 24 plain", "loops 24 plain", "Loop 24 plain",
                    "loop 24", "loop 24 plain 3", "loop 24 ", "loop  plain", "loop 24 plain,  shy", "loop 24 plain, 3 ",
                    "loop 24  plain", "loop 24 plain ", "loop 24 plain,3 shy",
                    "loop 24 plain,  3 shy", "loop 24 plain , 3 shy", "loop 24 plain, ", "loop , 24 plain",
                    "loop 24 plain, , 3 shy", "loop 24 plain, 3", "loop 24, plain", "loop24 plain", "loop\t24 plain",
                    "rounds 3 hear 2", "24 plain"):
            self.check_bad("rounds 3 hear 2\n" + row, 1, "loop")
            self.check_bad("rounds 3 hear 2\nloop 1 shy\n" + row, 2, "loop")
            self.check_bad("rounds 0 hear 0\nloop x y\n" + row, 2, "loop")
            self.check_bad("rounds 3 hear 2\n" + row + "\nloop 1 shy\nloop", 1, "loop")

    def test_an_empty_row_at_the_end_is_a_wrong_loop(self):
        self.check_bad(TEXT + "\n", 3, "loop")
        self.check_bad("\n" + TEXT, 0, "head")
        self.check_bad("rounds 3 hear 2\n", 1, "loop")

    def test_texts_of_one_row(self):
        self.check_bad("", 0, "head")
        self.check_bad("rounds 3 hear 2", 1, "loops")
        self.check_bad("rounds 0 hear 9", 1, "loops")

    def test_loops(self):
        head = "rounds 3 hear 2\n"
        self.check_bad(head + loop_row(11), 1, "loops")
        self.check_bad(head + loop_row(10) + "\n" + loop_row(11, 20), 2, "loops")
        four = [loop_row(1, 20 * index) for index in range(4)]
        self.check_bad(head + "\n".join(four), 4, "loops")
        self.check_bad(head + "\n".join(four + [loop_row(1, 99)]), 4, "loops")
        for at in range(5):
            rows = [loop_row(1, 20 * index) for index in range(5)]
            rows[at] = loop_row(11, 200)
            self.check_bad(head + "\n".join(rows), min(at + 1, 4), "loops")
        self.check_bad("rounds 0 hear 0\n" + loop_row(11) + "\nloop x y", 1, "loops")

    def test_number_and_sort(self):
        head = "rounds 3 hear 2\n"
        for number in ("0", "889", "x", "11111", ",24", "2\t4"):
            self.check_bad(head + f"loop {number} plain", 1, "number")
            self.check_bad(head + f"loop 1 shy, {number} plain", 1, "number")
            self.check_bad(head + f"loop 1 shy\nloop 2 shy, {number} plain\nloop {number} plain", 2, "number")
            self.check_bad(head + f"loop 1 loud\nloop 2 shy, {number} plain", 2, "number")
        for sort in ("loud", "Plain", "plain,", "shy\t"):
            self.check_bad(head + f"loop 24 {sort}", 1, "sort")
            self.check_bad(head + f"loop 1 shy\nloop 2 shy, 3 {sort}\nloop 4 {sort}", 2, "sort")
            self.check_bad(head + f"loop 1 shy, 1 shy\nloop 2 shy, 3 {sort}\nloop 4 {sort}", 2, "sort")

    def test_double(self):
        head = "rounds 3 hear 2\n"
        self.check_bad(head + "loop 1 shy, 1 plain", 1, "double")
        self.check_bad(head + "loop 1 shy\nloop 1 plain", 2, "double")
        self.check_bad(head + "loop 1 shy, 2 shy\nloop 3 shy\nloop 4 plain, 2 shy", 3, "double")
        self.check_bad(head + "loop 1 shy\nloop 2 shy, 2 shy\nloop 1 plain", 2, "double")
        self.check_bad("rounds 9 hear 9\nloop 1 shy\nloop 1 plain", 2, "double")

    def test_rounds_and_hear(self):
        for rounds in (0, 9):
            for hear in range(10):
                self.check_bad(f"rounds {rounds} hear {hear}\nloop 1 shy\nloop 2 shy", 0, "rounds")
        for hear in (0, 3, 9):
            self.check_bad(f"rounds 3 hear {hear}\nloop 1 shy", 0, "hear")
        self.check_bad("rounds 1 hear 2\nloop 1 shy", 0, "hear")
        self.assertEqual(read_town("rounds 2 hear 2\nloop 1 shy").hear, 2)


if __name__ == "__main__":
    unittest.main()

"""[4.3], [4.4] and the heading hearing.py."""

import random
import unittest

from tests import plain
from tests.test_tapes import some_tape
from wheelchorus.hearing import Ear, Ears, calls_on, first_heard, heard_on
from wheelchorus.line import Line
from wheelchorus.town import Town

ROW = tuple(plain.row("12"))
OTHER = tuple(plain.row("3"))


def plain_before(tape):
    """[4.4]: the number of the last round, if no odd piece has ended and no sign 2 has come behind it."""
    before = None
    for _, (word, worth) in plain.pieces(tape):
        if word == "round":
            before = worth
        elif word in ("odd", "key"):
            before = None
    return before


def some_tapes(chance, many, size):
    tapes = []
    for _ in range(many):
        tape = some_tape(chance, size) if not tapes or chance.random() < 0.6 else chance.choice(tapes)
        tapes.append(tape)
    return tapes


def plain_calls(tapes, hear):
    return tuple(sorted({call for tape in tapes for call in plain.heard(tape, hear)}))


class HeardTest(unittest.TestCase):
    def test_hear_1(self):
        self.assertEqual(heard_on((), 1), ())
        self.assertEqual(heard_on(ROW, 1), ((11, "12"),))
        self.assertEqual(heard_on((0,) + ROW + OTHER + (2,) + ROW, 1), ((12, "12"), (22, "3"), (35, "12")))
        self.assertEqual(heard_on(ROW[:-1], 1), ())

    def test_hear_2(self):
        self.assertEqual(heard_on((), 2), ())
        self.assertEqual(heard_on(ROW, 2), ())
        self.assertEqual(heard_on(ROW * 2, 2), ((23, "12"),))
        self.assertEqual(heard_on(ROW * 3, 2), ((23, "12"), (35, "12")))
        self.assertEqual(heard_on(ROW + (0,) * 30 + ROW, 2), ((53, "12"),))
        self.assertEqual(heard_on(ROW + OTHER + ROW, 2), ())
        self.assertEqual(heard_on(ROW + OTHER * 2 + ROW, 2), ((31, "3"),))

    def test_hear_2_with_something_between_two_rounds(self):
        odd = (1, 1, 0, 0, 0, 0, 0)
        for between in ((2,), (2, 2), (0, 2, 0), odd, (0,) + odd + (0,) * 9, (1, 2), (1, 0, 0, 2, 0)):
            self.assertEqual(heard_on(ROW + between + ROW, 2), ())
            tape = ROW + between + ROW * 2
            self.assertEqual(heard_on(tape, 2), ((len(tape) - 1, "12"),))
            self.assertEqual([number for _, number in heard_on(ROW + between + ROW, 1)], ["12", "12"])
        # A begun piece is none between two rounds: it goes on into what follows.
        self.assertEqual(heard_on(ROW + (1, 0, 0, 0) + ROW, 2), ())
        self.assertEqual(heard_on(ROW + ROW + (1, 0), 2), ((23, "12"),))

    def test_beside_plain_reckoning(self):
        chance = random.Random(44)
        both = 0
        for _ in range(300):
            tape = some_tape(chance)
            for hear in (1, 2):
                expected = plain.heard(tape, hear)
                self.assertEqual(heard_on(tape, hear), tuple(expected))
                self.assertIs(type(heard_on(tape, hear)), tuple)
                for number in {number for _, number in plain.heard(tape, 1)} | {"888"}:
                    first = next((tick for tick, other in expected if other == number), None)
                    self.assertEqual(first_heard(tape, hear, number), first)
                both += hear == 2 and len(expected) > 0
        self.assertGreater(both, 50)

    def test_first_heard(self):
        self.assertIsNone(first_heard((), 1, "12"))
        self.assertEqual(first_heard(ROW * 3, 1, "12"), 11)
        self.assertEqual(first_heard(ROW * 3, 2, "12"), 23)
        self.assertIsNone(first_heard(ROW * 3, 1, "3"))
        self.assertIsNone(first_heard(ROW, 2, "12"))


class EarTest(unittest.TestCase):
    def test_sign_by_sign(self):
        chance = random.Random(45)
        for _ in range(60):
            tape = some_tape(chance, 150)
            for hear in (1, 2):
                ear = Ear(hear)
                self.assertIsNone(ear.before)
                expected = dict(plain.heard(tape, hear))
                for tick, sign in enumerate(tape):
                    self.assertEqual(ear(sign), expected.get(tick))
                    self.assertEqual(ear.before, plain_before(tape[:tick + 1]))

    def test_before(self):
        ear = Ear(2)
        for sign in ROW:
            self.assertIsNone(ear.before)
            self.assertIsNone(ear(sign))
        self.assertEqual(ear.before, "12")
        for sign in (0, 0, 1, 1, 0, 0, 0, 0):
            ear(sign)
            self.assertEqual(ear.before, "12")
        ear(0)
        self.assertIsNone(ear.before)
        for sign in ROW:
            self.assertIsNone(ear(sign))
        self.assertEqual(ear.before, "12")
        ear(1)
        self.assertEqual(ear.before, "12")
        ear(2)
        self.assertIsNone(ear.before)

    def test_asking_changes_nothing(self):
        one, other = Ear(2), Ear(2)
        for sign in ROW * 2:
            one.before
            self.assertEqual(one(sign), other(sign))


class EarsTest(unittest.TestCase):
    def test_sign_by_sign(self):
        chance = random.Random(46)
        for many in (0, 1, 2, 7):
            for hear in (1, 2):
                tapes = some_tapes(chance, many, 200)
                expected = {}
                for tick, number in plain_calls(tapes, hear):
                    expected[tick] = expected.get(tick, ()) + (number,)
                ears = Ears(many, hear)
                for tick in range(200):
                    signs = [tape[tick] for tape in tapes]
                    kept = list(signs)
                    self.assertEqual(ears(signs if tick & 1 else tuple(signs)), expected.get(tick, ()))
                    self.assertEqual(signs, kept)

    def test_one_number_on_several_tapes_and_several_numbers(self):
        # Rows of one length, so that all end at one tick.
        tapes = [tuple(plain.row(number)) for number in ("3", "12", "21", "12", "111", "21")]
        self.assertEqual(calls_on(tapes[1:4], 1), ((11, "12"), (11, "21")))
        self.assertEqual(calls_on([tape * 2 for tape in tapes[1:4]], 2), ((23, "12"), (23, "21")))
        ears = Ears(3, 1)
        answers = [ears(signs) for signs in zip(*tapes[1:4])]
        self.assertEqual(answers, [()] * 11 + [("12", "21")])
        ears = Ears(0, 1)
        self.assertEqual([ears(()), ears([])], [(), ()])

    def test_ascending_texts(self):
        tapes = [tuple(plain.row(number)) for number in ("9", "63", "36", "45")]
        size = min(map(len, tapes))
        self.assertEqual(size, 22)
        ends = calls_on([(0,) * (24 - len(tape)) + tape for tape in tapes], 1)
        self.assertEqual(ends, ((23, "36"), (23, "45"), (23, "63"), (23, "9")))

    def test_calls_beside_plain_reckoning(self):
        chance = random.Random(47)
        for _ in range(60):
            tapes = some_tapes(chance, chance.randint(0, 8), chance.randint(0, 200))
            for hear in (1, 2):
                kept = list(tapes)
                self.assertEqual(calls_on(tapes, hear), plain_calls(tapes, hear))
                self.assertEqual(calls_on(tuple(tapes), hear), plain_calls(tapes, hear))
                self.assertEqual(tapes, kept)
        self.assertEqual(calls_on((), 1), ())
        self.assertEqual(calls_on([(), ()], 2), ())

    def test_100_tapes_of_3000_signs(self):
        chance = random.Random(48)
        tapes = some_tapes(chance, 100, 3000)
        self.assertEqual(calls_on(tapes, 2), plain_calls(tapes, 2))

    def test_ears_of_a_line(self):
        chance = random.Random(49)
        for hear in (1, 2):
            town = Town(plain.some_loops(chance, most_boxes=2), rounds=4, hear=hear)
            line, model = Line(town), plain.PlainLine(town)
            ears = Ears(2 * len(town.loops), hear)
            heard = []
            for tick in range(600):
                if chance.random() < 0.03:
                    deed = plain.some_deed(chance, model)
                    model.do(deed)
                    line.do(deed)
                line.tick()
                heard += [(tick, number) for number in ears(line.last_signs)]
            tapes = [tape for pair in line.tapes for tape in pair]
            self.assertEqual(tuple(heard), calls_on(tapes, hear))
            self.assertEqual(tuple(heard), plain_calls(tapes, hear))
            self.assertTrue(heard)


if __name__ == "__main__":
    unittest.main()

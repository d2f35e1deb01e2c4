"""[4.1], [4.2] and the heading tapes.py."""

import random
import unittest

from tests import plain
from wheelchorus.line import Line
from wheelchorus.tapes import Sign, is_tape, piece_ticks, pieces, rounds_on, walk_pieces
from wheelchorus.town import Town


SMALL = [number for number in plain.ALL_NUMBERS if len(plain.row(number)) <= 14]


def some_tape(chance, many=None):
    """Rows, bent rows, quiet ticks and keys behind one another, begun and ended anywhere."""
    tape = []
    size = chance.randint(0, 300) if many is None else many
    number = chance.choice(SMALL)
    while len(tape) < size + 60:
        row = plain.row(number)
        kind = chance.random()
        if kind < 0.5:
            tape += row
        elif kind < 0.6:
            row[chance.randrange(len(row))] ^= 1
            tape += row
        elif kind < 0.7:
            tape += row[:chance.randrange(len(row) + 1)] + [2] * chance.randint(0, 2)
        elif kind < 0.9:
            tape += [0] * chance.randint(1, 12)
        else:
            number = chance.choice(SMALL)
            tape += [2] * chance.randint(0, 3)
    start = chance.randint(0, 30)
    return tuple(tape[start:start + size])


class TapesTest(unittest.TestCase):
    def check(self, tape):
        expected = plain.pieces(tape)
        self.assertEqual(list(walk_pieces(tape)), expected)
        self.assertEqual(pieces(tape), tuple(piece for _, piece in expected))
        self.assertIs(type(pieces(tape)), tuple)
        self.assertEqual(sum(map(piece_ticks, pieces(tape))), len(tape))
        rounds = tuple((at + len(plain.row(piece[1])) - 1, piece[1]) for at, piece in expected if piece[0] == "round")
        self.assertEqual(rounds_on(tape), rounds)

    def test_signs(self):
        self.assertEqual((Sign.CLOSED, Sign.BROKEN, Sign.KEY), (0, 1, 2))

    def test_is_tape(self):
        for tape in ((), (0,), (1,), (2,), (0, 1, 2) * 1000, (0,) * 3000):
            self.assertIs(is_tape(tape), True)
        for thing in plain.ANY_OBJECTS + plain.WHOLE_NUMBERS:
            if thing not in ((), (1, 2)):
                self.assertIs(is_tape(thing), False, thing)
        for thing in ((0,) * 3001, (3,), (-1,), (10 ** 39,), (0, True), (False,), (0, None), ("0",), (0, (1,)), [0],
                      (0, [1]), [], "012", {0: 1}, (0, {})):
            self.assertIs(is_tape(thing), False, thing)

    def test_known_pieces(self):
        row = tuple(plain.row("12"))
        self.assertEqual(pieces(()), ())
        self.assertEqual(rounds_on(()), ())
        self.assertEqual(pieces(row), (("round", "12"),))
        self.assertEqual(rounds_on(row), ((11, "12"),))
        self.assertEqual(pieces(row + row), (("round", "12"), ("round", "12")))
        self.assertEqual(pieces((0, 0) + row + (0,)), (("quiet", 2), ("round", "12"), ("quiet", 1)))
        self.assertEqual(list(walk_pieces((0, 2, 2) + row)), [(0, ("quiet", 1)), (1, ("key", 2)), (3, ("round", "12"))])
        self.assertEqual(rounds_on((0, 2, 2) + row), ((14, "12"),))

    def test_edges(self):
        row = tuple(plain.row("12"))
        # A tape that begins amid a row, and one that ends amid a piece.
        self.assertEqual(pieces(row[2:]), (("quiet", 2), ("round", "2")))
        self.assertEqual(pieces(row[6:]), (("round", "1"),))
        self.assertEqual(pieces(row[:-1]), (("begun", 11),))
        self.assertEqual(pieces(row[:1]), (("begun", 1),))
        # Five closed signs at the very end end the piece; a key right behind them changes nothing.
        self.assertEqual(pieces((1, 1) + (0,) * 5), (("odd", 7),))
        self.assertEqual(pieces(row + (2,)), (("round", "12"), ("key", 1)))
        self.assertEqual(pieces(row[:-1] + (2,)), (("spoilt", 11), ("key", 1)))
        self.assertEqual(pieces((1, 2, 1)), (("spoilt", 1), ("key", 1), ("begun", 1)))
        self.assertEqual(pieces((1, 0, 0, 0, 0, 2, 0)), (("spoilt", 5), ("key", 1), ("quiet", 1)))
        self.assertEqual(pieces((1, 0, 0, 0, 0, 1) + (0,) * 6), (("odd", 11), ("quiet", 1)))
        self.assertEqual(pieces((2, 2, 0, 2)), (("key", 2), ("quiet", 1), ("key", 1)))
        # The digit sum 25 makes no number.
        too_great = ((1, 0) * 9 + (0, 0)) * 2 + (1, 0) * 7 + (0, 0, 0, 0)
        self.assertEqual(pieces(too_great), (("odd", len(too_great)),))

    def test_piece_ticks(self):
        for word in ("key", "quiet", "odd", "spoilt", "begun"):
            self.assertEqual(piece_ticks((word, 17)), 17)
        for number in plain.some_numbers(39, 50):
            self.assertEqual(piece_ticks(("round", number)), len(plain.row(number)))

    def test_beside_plain_reckoning(self):
        chance = random.Random(40)
        words = set()
        for _ in range(400):
            tape = some_tape(chance)
            self.check(tape)
            words |= {word for word, _ in pieces(tape)}
        self.assertEqual(words, {"key", "quiet", "round", "odd", "spoilt", "begun"})

    def test_tapes_of_any_signs(self):
        chance = random.Random(41)
        for _ in range(300):
            self.check(tuple(chance.choice((0, 0, 0, 0, 1, 2)) for _ in range(chance.randint(0, 60))))
            self.check(tuple(chance.choice((0, 0, 1)) for _ in range(chance.randint(0, 60))))

    def test_tapes_of_3000_signs(self):
        chance = random.Random(42)
        self.check(some_tape(chance, 3000))
        self.check((1, 0) * 1500)
        self.check((0,) * 3000)
        self.check((1, 2) * 1500)

    def test_tapes_of_lines(self):
        chance = random.Random(43)
        for _ in range(10):
            town = Town(plain.some_loops(chance, most_boxes=4), rounds=3)
            line, model = Line(town), plain.PlainLine(town)
            for _ in range(300):
                if chance.random() < 0.05:
                    deed = plain.some_deed(chance, model)
                    model.do(deed)
                    line.do(deed)
                line.tick()
            for tape in [tape for pair in line.tapes for tape in pair]:
                self.assertIs(is_tape(tape), True)
                self.check(tape)


if __name__ == "__main__":
    unittest.main()

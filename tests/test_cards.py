"""[8.1], [8.2], [8.13] and the heading cards.py."""

import random
import re
import unittest

from tests import plain
from wheelchorus.cards import Card, card_text, is_stations, read_card
from wheelchorus.errors import BadCard, BadCardText

TEXT = re.compile(
    r"[1-9]{1,4}: (-|[0-5]( [0-5]){0,5}) / [0-6] [0-6] [0-6] / [0-6] [0-6] [0-6]( / [0-5]>[0-8]){0,6}"
)


def is_text(text):
    """Whether this is the text of a card, by a pattern."""
    if not TEXT.fullmatch(text):
        return False
    number, order = text.split(": ")[0], text.split(": ")[1].split(" / ")[0].split(" ")
    return number in plain.ALL_NUMBERS and len(set(order)) == len(order)


def some_card(chance):
    """The arguments of a card, in lists and tuples."""
    kind = chance.choice((list, tuple))
    return (
        chance.choice(plain.ALL_NUMBERS), kind(chance.sample(range(6), chance.randint(0, 6))),
        {
            "counts": kind(chance.randint(0, 6) for _ in range(3)),
            "owed": kind(chance.randint(0, 6) for _ in range(3)),
            "moves": kind(chance.choice((list, tuple))((chance.randint(0, 5), chance.randint(0, 8)))
                          for _ in range(chance.choice((0, 0, 1, 3, 6)))),
        },
    )


def told(card):
    return card.number, card.order, card.counts, card.owed, card.moves


def plain_text(number, order, counts, owed, moves):
    parts = [" ".join(map(str, order)) or "-", " ".join(map(str, counts)), " ".join(map(str, owed))]
    return number + ": " + " / ".join(parts + [f"{crew}>{station}" for crew, station in moves])


class StationsTest(unittest.TestCase):
    def test_stations(self):
        for thing in ((0,), [8], (0, 0, 0, 0, 0, 0), [3, 1, 4, 1, 5, 8]):
            self.assertIs(is_stations(thing), True)
        wrong = ((), [], (0,) * 7, (9,), (-1,), (True,), (0, False), ("0",), (0, None), ([0],), "0", {0: 1}, 3,
                 (10 ** 39,), ((0, 1),), [[0]])
        for thing in wrong + plain.ANY_OBJECTS + plain.WHOLE_NUMBERS:
            if thing not in ([1], (1, 2)):
                self.assertIs(is_stations(thing), False, thing)


class CardTest(unittest.TestCase):
    def test_known_card(self):
        order, move = [0, 2, 1], [2, 0]
        counts, owed, moves = [1, 2, 2], [1, 1, 2], [move, (1, 8)]
        card = Card("24", order, counts=counts, owed=owed, moves=moves)
        for thing in (order, counts, owed, moves, move):
            thing.append(5)
        self.assertEqual(told(card), ("24", (0, 2, 1), (1, 2, 2), (1, 1, 2), ((2, 0), (1, 8))))
        for thing in told(card)[1:] + card.moves:
            self.assertIs(type(thing), tuple)

    def test_defaults(self):
        card = Card("24", (), counts=(0, 0, 0))
        self.assertEqual(told(card), ("24", (), (0, 0, 0), (0, 0, 0), ()))
        self.assertEqual((Card.GRADES, card.GRADES), (3, 3))

    def test_good_cards(self):
        chance = random.Random(821)
        for _ in range(100):
            number, order, more = some_card(chance)
            card = Card(number, order, **more)
            expected = (number, tuple(order), tuple(more["counts"]), tuple(more["owed"]),
                        tuple(map(tuple, more["moves"])))
            self.assertEqual(told(card), expected)
        Card("9951", (5, 4, 3, 2, 1, 0), counts=(6, 6, 6), owed=(6, 6, 6), moves=((5, 8),) * 6)

    GOOD = {"number": "24", "order": (0, 1), "counts": (1, 2, 3), "owed": (0, 0, 1), "moves": ((0, 8),)}
    THREE = plain.ANY_OBJECTS + plain.WHOLE_NUMBERS + (
        (1, 2), (1, 2, 3, 4), (1, 2, 7), (-1, 2, 3), (True, 2, 3), (1, 2, None), "123", (1, "2", 3), (1, [2], 3),
        {1: 1, 2: 2, 3: 3}, (1, 2, 10 ** 39),
    )
    WRONG = {
        "number": plain.ANY_OBJECTS + ("889", 24, ("24",)),
        "order": tuple(thing for thing in plain.ANY_OBJECTS if thing not in ((), [], [1], (1, 2))) +
        plain.WHOLE_NUMBERS + (
            (0, 0), (6,), (-1,), (True,), (0, False), ("0",), (0, 1, 2, 3, 4, 5, 0), "012", {0: 1}, ([0],),
            (5, 1, 5), (None,), (10 ** 39,), [[0]], True,
        ),
        "counts": THREE,
        "owed": THREE,
        "moves": tuple(thing for thing in plain.ANY_OBJECTS if thing not in ((), [])) + plain.WHOLE_NUMBERS + (
            (0, 8), ((0,),), ((0, 8, 1),), ((6, 8),), ((-1, 8),), ((0, 9),), ((0, -1),), ((True, 8),), ((0, True),),
            (("0", 8),), ((0, 8), None), ("08",), ({0: 8},), ((0, 8),) * 7, ([0], 8), (((0, 8),),), {(0, 8): 1},
        ),
    }

    def test_bad_cards(self):
        chance = random.Random(822)
        names = list(self.GOOD)
        for at, one in enumerate(names):
            for thing in self.WRONG[one]:
                for other in [None] + names[at + 1:]:
                    values = {**self.GOOD, one: thing}
                    if other is not None:
                        values[other] = chance.choice(self.WRONG[other])
                    with self.assertRaises(BadCard, msg=thing) as caught:
                        Card(values["number"], values["order"], counts=values["counts"], owed=values["owed"],
                             moves=values["moves"])
                    self.assertEqual(caught.exception.what, one)


class TextTest(unittest.TestCase):
    def check_bad(self, thing):
        with self.assertRaises(BadCardText) as caught:
            read_card(thing)
        self.assertIs(caught.exception.text, thing)

    def test_known_text(self):
        text = "24: 0 2 1 / 1 2 2 / 1 1 2 / 2>0"
        card = read_card(text)
        self.assertIs(type(card), Card)
        self.assertEqual(told(card), ("24", (0, 2, 1), (1, 2, 2), (1, 1, 2), ((2, 0),)))
        self.assertEqual(card_text(card), text)
        self.assertEqual(card_text(Card("1", (), counts=(0, 0, 0))), "1: - / 0 0 0 / 0 0 0")
        great = "9951: 5 4 3 2 1 0 / 6 6 6 / 6 6 6" + " / 5>8" * 6
        self.assertEqual(card_text(read_card(great)), great)

    def test_there_and_back(self):
        chance = random.Random(8131)
        for _ in range(200):
            number, order, more = some_card(chance)
            card = Card(number, order, **more)
            text = plain_text(number, order, **more)
            self.assertTrue(is_text(text))
            self.assertEqual(card_text(card), text)
            self.assertEqual(told(read_card(text)), told(card))

    def test_bad_texts(self):
        good = "24: 0 2 1 / 1 2 2 / 1 1 2 / 2>0"
        for thing in plain.ANY_OBJECTS + plain.WHOLE_NUMBERS + (good + "\n", good + " ", " " + good, good + " / ",
                                                               [good], (good,)):
            self.check_bad(thing)
        for old, new in (
            ("24", "29999"), ("24", "889"), ("24", "0"), ("24", ""), (": ", ":"), (": ", ":  "), (": ", " : "),
            ("0 2 1", ""), ("0 2 1", "0  2 1"), ("0 2 1", "0 2 0"), ("0 2 1", "6"), ("0 2 1", "- 1"), ("0 2 1", "--"),
            ("0 2 1", "00 2 1"), ("0 2 1", "0,2,1"), ("0 2 1", "0 2 1 "), ("1 2 2", "1 2"), ("1 2 2", "1 2 2 2"),
            ("1 2 2", "1 2 7"), ("1 2 2", "1 2 -2"), ("1 2 2", "-"), ("1 1 2", "1 1 02"), ("1 1 2", "1 1 +2"),
            ("1 1 2 / ", "1 1 2 /"), ("1 1 2 / ", "1 1 2/ "), (" / 1 1 2", ""), ("2>0", "2>9"), ("2>0", "6>0"),
            ("2>0", "2 > 0"), ("2>0", "2>"), ("2>0", "2>0>0"), ("2>0", "2-0"), ("2>0", "20"), ("2>0", ""),
            ("2>0", "2>0 / 2>0 / 2>0 / 2>0 / 2>0 / 2>0 / 2>0"), ("24: ", "24: 24: "), ("2>0", "2>0 / -"),
            ("2>0", "02>0"), ("2>0", "2>00"), ("0 2 1", "0 2 ?"), ("24", "24 "),
        ):
            self.assertIn(old, good)
            text = good.replace(old, new, 1)
            self.assertFalse(is_text(text), text)
            self.check_bad(text)

    def test_bent_texts(self):
        chance = random.Random(8132)
        counts = {True: 0, False: 0}
        for _ in range(3000):
            number, order, more = some_card(chance)
            text = plain_text(number, order, **more)
            at = chance.randrange(len(text))
            bent = text[:at] + chance.choice(("", " ", "0", "5", "9", "-", "/", ">", " / ", ":")) + \
                text[at + chance.choice((0, 1)):]
            counts[is_text(bent)] += 1
            if is_text(bent):
                self.assertEqual(card_text(read_card(bent)), bent)
            else:
                self.check_bad(bent)
        self.assertGreater(min(counts.values()), 200)


if __name__ == "__main__":
    unittest.main()

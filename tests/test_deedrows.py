"""[5.10], [5.12] and the heading deedrows.py."""

import itertools
import random
import unittest

from tests import plain
from tests.papers import APART_WIRES, CASES, Full, PlainQuestion, some_arguments, some_boxes, some_readings
from wheelchorus.coverjudge import reading_fault
from wheelchorus.deedrows import cover_lines, deed_row
from wheelchorus.errors import BadQuestion, NoLoop
from wheelchorus.line import play
from wheelchorus.question import Question
from wheelchorus.readable import Reading, false_reading
from wheelchorus.town import Town

SHORT = [number for number in plain.ALL_NUMBERS if len(plain.row(number)) <= 14]

# For a number on a wire with rounds 2, two covers behind a quiet wire, the first one clean.
TWO_PIECES = (
    ("1121", (("231", "plain"), ("11", "plain"), ("1", "plain")), (("11", "pull", 0, 2), ("1", "pull", 8, 2)),
     (("11", "pull", 0, 2), ("1", "pull", 8, 2))),
    ("24", (("2", "plain"), ("1", "plain"), ("113", "shy")), (("2", "pull", 0, 2), ("1", "pull", 6, 2)),
     (("113", "head", 0, 1), ("2", "pull", 0, 2), ("1", "pull", 0, 2), ("1", "pull", 12, 2))),
    ("1121", (("112", "shy"), ("11", "plain"), ("21", "plain")), (("11", "pull", 0, 2), ("112", "head", 0, 1)),
     (("11", "pull", 0, 2), ("21", "pull", 8, 2))),
    ("12", (("1", "plain"), ("1112", "shy"), ("1121", "shy")), (("1121", "head", 0, 1), ("1", "pull", 0, 2)),
     (("1112", "head", 0, 1), ("1", "pull", 6, 2))),
    ("112", (("1", "plain"), ("1111", "shy")), (("1111", "head", 0, 1), ("1", "pull", 4, 2)),
     (("1111", "head", 0, 1), ("1", "pull", 10, 2))),
    ("16", (("12", "shy"), ("2", "plain"), ("15", "shy")), (("15", "head", 0, 1), ("2", "pull", 4, 2)),
     (("12", "head", 0, 1), ("15", "head", 0, 1), ("2", "pull", 4, 2))),
)


def plain_row(town, reading, loop):
    """The deeds of [5.10]: for each possible first tick b from -600 on, the first that its conditions allow."""
    length = len(plain.row(reading.number))
    heads = [facts[0] for facts in reading.first if facts[1] == "head"]
    for begin in range(-600, 600):
        timed = []
        if loop is None:
            timed.append((begin - 2 if reading.case == "key" else 0, ("join",)))
        elif reading.case == "key":
            timed.append((begin - 2, ("cut", loop, len(town.loops[loop]))))
        for number, kind, at, rounds in reading.first:
            earlier = (reading.rounds - rounds) * len(plain.row(number)) if kind in ("train", "tail") else 0
            timed.append((begin + at - earlier, ("pull", number)))
        least = 2 if loop is None else 0
        if heads:
            least = 10 if loop is None else 8
        if begin < least or min(tick for tick, _ in timed) < 0:
            continue
        last = begin + {"once": 0, "doubled": length, "apart": length + 3}[reading.form]
        for number, kind, at, _ in reading.second:
            if kind != "head" or number not in heads:
                timed.append((last + at, ("pull", number)))
        timed.sort(key=lambda entry: (entry[0], entry[1][0] == "pull", entry[1][1:]))
        return tuple(timed), last + length - 1
    return None


def towns_with(chance, boxes, number, rounds, hear):
    """Towns and loops whose wire has these boxes, with or without the number's own: joined ones, and single loops."""
    others = [name for name in plain.some_numbers(chance.random(), 12) if name not in [box[0] for box in boxes]]
    own = [(number, chance.choice(("plain", "shy")))] if chance.random() < 0.5 else []
    wire = list(boxes) + own
    chance.shuffle(wire)
    many = chance.randint(1, min(3, len(wire)))
    at = sorted(chance.sample(range(1, len(wire)), many - 1))
    loops = [wire[low:high] for low, high in zip([0] + at, at + [len(wire)])]
    yield Town(loops, rounds=rounds, hear=hear), None
    if wire:
        strange = [[(name, "plain")] for name in others if name != number]
        loop = chance.randrange(3)
        yield Town(strange[:loop] + [wire] + strange[loop:2], rounds=rounds, hear=hear), loop


class DeedRowTest(unittest.TestCase):
    def check(self, town, reading, loop, hear):
        timed, tick = deed_row(town, reading, loop)
        self.assertEqual((timed, tick), plain_row(town, reading, loop))
        self.assertIs(type(timed), tuple)
        self.assertNotIn(("pull", reading.number), [deed for _, deed in timed])
        line = play(town, timed, tick + 1)
        for tape in (line.near_tape(loop or 0), line.near_tape(len(town.loops) - 1) if loop is None else None):
            if tape is not None:
                self.assertIn((tick, reading.number), plain.heard(tape, hear))
        return timed

    def test_returned_readings(self):
        chance = random.Random(5101)
        told = set()
        for boxes, reading, more in some_readings(chance, 150):
            for town, loop in towns_with(chance, boxes, reading.number, reading.rounds, more["hear"]):
                self.check(town, reading, loop, more["hear"])
                told.add((reading.form, reading.case, loop is None))
        for joined in (False, True):
            for case in CASES:
                self.assertIn(("once", case, joined), told)
                self.assertIn(("apart", case, joined), told)
            self.assertTrue({("doubled", "train", joined), ("doubled", "key", joined)} & told)

    def covers(self, chance, number, boxes, **more):
        """Some covers of a question, found by taking the choices in any order."""
        model = PlainQuestion(number, boxes, **more)
        names = list(model.lays)
        found = []
        for _ in range(4):
            chance.shuffle(names)
            model.lays = {facts: model.lays[facts] for facts in names}
            try:
                answer, _ = model.search(300)
            except Full:
                continue
            if isinstance(answer, list):
                found.append(tuple(answer))
        return found

    def test_other_readings(self):
        """Any reading without a fault, also with lays that a search would not choose."""
        chance = random.Random(5102)
        told = set()
        many = 0
        while many < 300:
            number = chance.choice(SHORT)
            boxes = tuple(box for box in some_boxes(chance, chance.randint(2, 5), SHORT[:40]) if box[0] != number)
            rounds, case = chance.randint(1, 3), chance.choice(CASES)
            if case == "train" and rounds == 1 or not boxes:
                continue
            form = chance.choice(("once", "doubled", "apart", "apart") if rounds > 1 else ("once",))
            more = {"rounds": rounds, "times": 2 if form == "doubled" else 1, "clean": form == "apart"}
            firsts = self.covers(chance, number, boxes, case=case, **more)
            seconds = [()]
            if firsts and form == "apart":
                seconds = self.covers(chance, number, boxes, case="quiet", rounds=rounds)
            for first, second in list(itertools.product(firsts, seconds))[:6]:
                reading = Reading(number, rounds, form, case, first, second)
                hear = 1 if form == "once" else 2
                self.assertIsNone(reading_fault(boxes, reading, hear=hear, key=True))
                for town, loop in towns_with(chance, boxes, number, rounds, hear):
                    self.check(town, reading, loop, hear)
                heads = [facts for facts in first if facts[1] == "head"]
                told.add((form, case == "quiet", bool(heads)))
                many += 1
        for kind in (("once", True, True), ("once", False, False), ("doubled", False, False), ("apart", False, False)):
            self.assertIn(kind, told)

    def test_doubled_behind_a_quiet_wire(self):
        for number, boxes in (
            ("5", (("22", "plain"), ("31", "shy"), ("11", "plain"))), ("5", (("22", "plain"), ("13", "plain"))),
            ("21", (("1", "plain"), ("22", "shy"), ("2", "shy"), ("11", "plain"))),
        ):
            reading = false_reading(boxes, number, rounds=3, hear=2)
            self.assertEqual((reading.form, reading.case), ("doubled", "quiet"))
            town = Town([boxes], rounds=3, hear=2)
            self.check(town, reading, 0, 2)
            self.check(town, reading, None, 2)

    def test_heads_in_first_and_in_second(self):
        """All ways in which shy boxes can take part in pieces apart, each piece behind a quiet wire."""
        chance = random.Random(5103)
        kinds = set()
        for number, boxes, first, second in TWO_PIECES:
            reading = Reading(number, 2, "apart", "quiet", first, second)
            self.assertIsNone(reading_fault(boxes, reading, hear=2))
            for town, loop in towns_with(chance, boxes, number, 2, 2):
                timed = self.check(town, reading, loop, 2)
                heads = [{facts[0] for facts in lays if facts[1] == "head"} for lays in (first, second)]
                pulls = [deed[1] for _, deed in timed if deed[0] == "pull"]
                for name in heads[0] | heads[1]:
                    self.assertEqual(pulls.count(name), 1)
                kinds.add((bool(heads[0]), bool(heads[1]), bool(heads[0] & heads[1]), bool(heads[1] - heads[0])))
        self.assertEqual(len(kinds), len(TWO_PIECES))

    def test_known_deeds(self):
        town = Town([[("1", "plain"), ("2", "plain"), ("11", "shy")], [("12", "plain")]], rounds=1)
        once = Reading("12", 1, "once", "quiet", (("1", "pull", 0, 1), ("2", "pull", 4, 1)))
        self.assertEqual(deed_row(town, once, 0), (((0, ("pull", "1")), (4, ("pull", "2"))), 11))
        self.assertEqual(deed_row(town, once), (((0, ("join",)), (2, ("pull", "1")), (6, ("pull", "2"))), 13))
        head = Reading("12", 1, "once", "quiet", (("11", "head", 0, 1), ("2", "pull", 4, 1)))
        self.assertEqual(deed_row(town, head, 0), (((8, ("pull", "11")), (12, ("pull", "2"))), 19))
        self.assertEqual(deed_row(town, head), (((0, ("join",)), (10, ("pull", "11")), (14, ("pull", "2"))), 21))

    def test_deeds_at_one_tick(self):
        """A key lay that is pulled at the very tick of the cut; pulls at one tick by number as text."""
        town = Town([[("9", "plain"), ("11", "plain"), ("2", "plain")]], rounds=1)
        reading = Reading("3", 1, "once", "key", (("2", "tail", -2, 1), ("11", "pull", 0, 1), ("9", "pull", 0, 1)))
        timed, _ = deed_row(town, reading, 0)
        self.assertEqual(timed, (
            (0, ("cut", 0, 3)), (0, ("pull", "2")), (2, ("pull", "11")), (2, ("pull", "9")),
        ))
        timed, _ = deed_row(town, reading)
        self.assertEqual(timed[0], (0, ("join",)))

    def test_trains_and_tails_are_pulled_ahead(self):
        town = Town([[("1", "plain"), ("2", "plain")]], rounds=3)
        reading = Reading("3", 3, "once", "key", (("1", "train", 0, 1), ("2", "tail", -6, 2)))
        # The train of one round of 1 is pulled 12 ticks ahead, the tail of two rounds of 2 at -6 - 8.
        timed, tick = deed_row(town, reading, 0)
        self.assertEqual(timed, ((0, ("pull", "2")), (2, ("pull", "1")), (12, ("cut", 0, 2))))
        self.assertEqual(tick, 14 + 9)
        self.check(town, reading, 0, 1)

    def test_no_loop(self):
        town = Town([[("1", "plain"), ("2", "plain")], [("3", "shy")]], rounds=2)
        reading = Reading("12", 1, "once", "quiet", (("7", "pull", 0, 1),))
        for thing in plain.ANY_OBJECTS[1:] + (2, -1, 10 ** 39, "0"):
            with self.assertRaises(NoLoop) as caught:
                deed_row(town, reading, thing)
            self.assertIs(caught.exception.loop, thing)

    def check_bad(self, what, town, reading, loop=None):
        with self.assertRaises(BadQuestion) as caught:
            deed_row(town, reading, loop)
        self.assertEqual(caught.exception.what, what)

    def test_bad_question(self):
        loops = [[("1", "plain"), ("2", "plain"), ("11", "shy")], [("4", "plain")]]
        first = (("11", "head", 0, 1), ("2", "pull", 4, 1))
        good = Reading("12", 1, "once", "quiet", first)
        for rounds in (2, 8):
            self.check_bad("rounds", Town(loops, rounds=rounds), good)
            self.check_bad("rounds", Town(loops, rounds=rounds), Reading("12", 1, "once", "quiet", (None,)), 0)
            self.check_bad("rounds", Town([loops[1]], rounds=rounds), good, 0)
        town = Town(loops, rounds=1)
        self.check_bad("boxes", town, good, 1)
        for wrong in (("11", "pull", 0, 1), ("2", "head", 4, 1), ("3", "pull", 4, 1), ("1", "head", 0, 1),
                      ("11", "train", 0, 1), ("11", "tail", -2, 1), ("12", "pull", 0, 1)):
            self.check_bad("boxes", town, Reading("12", 1, "once", "quiet", (wrong,)))
            self.check_bad("boxes", town, Reading("12", 1, "once", "quiet", first[:1] + (wrong,)), 0)
        two = Town(loops, rounds=2)
        for wrong in (("4", "pull", 0, 2), ("2", "head", 0, 1), ("11", "pull", 0, 2)):
            self.check_bad("boxes", two, Reading("12", 2, "apart", "quiet", first, (wrong,)), 0)

    def test_a_reading_of_another_loop(self):
        town = Town([[("1", "plain")], [("1111", "shy"), ("2", "plain"), ("11", "shy")]], rounds=1)
        reading = Reading("12", 1, "once", "quiet", (("11", "head", 0, 1), ("2", "pull", 4, 1)))
        self.check_bad("boxes", town, reading, 0)
        self.check(town, reading, 1, 1)
        self.check(town, reading, None, 1)

    def test_apart_wires(self):
        for number, boxes, rounds, key in APART_WIRES:
            reading = false_reading(boxes, number, rounds=rounds, hear=2, key=key)
            for loops in ([boxes], [boxes[:1], boxes[1:]]):
                town = Town(loops, rounds=rounds, hear=2)
                self.check(town, reading, None, 2)
            self.check(Town([boxes], rounds=rounds, hear=2), reading, 0, 2)


class CoverLinesTest(unittest.TestCase):
    def test_known_lines(self):
        question = Question("24", (("3", "plain"), ("2", "plain"), ("1", "shy")), rounds=1, case="quiet")
        self.assertEqual(cover_lines(question, (("3", "pull", 8, 1), ("1", "head", 0, 1))), (
            "24   x.x...x.x.x.x.....",
            "3    ........x.x.x..... pull 1",
            "1    x................. head 1",
        ))
        self.assertEqual(cover_lines(question, []), ("24   x.x...x.x.x.x.....",))

    def test_beside_plain_reckoning(self):
        chance = random.Random(5121)
        kinds = set()
        for _ in range(60):
            number, boxes, more = some_arguments(chance)
            question = Question(number, boxes, **more)
            model = PlainQuestion(number, boxes, **more)
            lay_facts = chance.choices(list(question), k=3) if len(question) else []
            expected = [[number, set(model.strokes), ""]]
            for facts in lay_facts:
                kinds.add(facts[1])
                expected.append([facts[0], model.lays[facts][0], f" {facts[1]} {facts[3]}"])
            lines = []
            for name, strokes, end in expected:
                signs = "".join("x" if offset in strokes else "." for offset in range(model.span))
                lines.append(name + " " * (5 - len(name)) + signs + end)
            self.assertEqual(cover_lines(question, lay_facts), tuple(lines))
        self.assertEqual(kinds, {"head", "pull", "train", "tail"})


if __name__ == "__main__":
    unittest.main()

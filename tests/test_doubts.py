"""[10.12] to [10.14] and the heading doubts.py."""

import random
import re
import time
import unittest

from tests import plain
from tests.papers import PlainQuestion, told_tree
from tests.services import some_service
from tests.shown import SAFE, TOWN, big_service
from tests.test_tapedesk import some_run
from wheelchorus.coverjudge import cover_fault, tree_fault
from wheelchorus.deedrows import deed_row
from wheelchorus.doubts import doubt, rounds_ahead, sure_calls
from wheelchorus.errors import BadCase, BadNumber, BadTapes, NoLoop, TooManyCases
from wheelchorus.hearing import calls_on, heard_on
from wheelchorus.line import play
from wheelchorus.question import Question
from wheelchorus.readable import Reading, Safe
from wheelchorus.service import Service
from wheelchorus.tapes import rounds_on
from wheelchorus.town import Town

WORDS = ("quiet", "train", "key", "short")


def plain_ahead(tape):
    """[10.12] by the text of the tape."""
    text = plain.signs_text(tape)
    found = []
    for at, (word, number) in plain.pieces(tape):
        if word != "round":
            continue
        closed = len(re.search("0*$", text[:at]).group())
        sign = text[:at - closed][-1:]
        if closed >= 8:
            ahead = "quiet"
        elif sign == "2" and closed <= 5:
            ahead = "key"
        elif sign == "1" and closed == 5:
            ahead = "train"
        else:
            ahead = "short"
        found.append((at + len(plain.row(number)) - 1, number, ahead, closed))
    return tuple(found)


def plain_case(service, loop, number, ahead):
    """The boxes and the case of [10.13]."""
    loops = service.town.loops if service.joining else service.town.loops[loop:loop + 1]
    boxes = [box for one in loops for box in one if box[0] != number]
    if ahead == "short":
        return [box for box in boxes if box[1] == "plain"], "quiet"
    return boxes, ahead


class RoundsAheadTest(unittest.TestCase):
    def check(self, tape, expected):
        self.assertEqual(rounds_ahead(tuple(tape)), expected)
        self.assertEqual(plain_ahead(tuple(tape)), expected)

    def test_behind_the_beginning(self):
        row = plain.row("2")
        for closed in range(20):
            ahead = "quiet" if closed >= 8 else "short"
            self.check([0] * closed + row, ((closed + 7, "2", ahead, closed),))

    def test_behind_closed_ticks(self):
        one, two = plain.row("1"), plain.row("2")
        for more in range(6):
            ahead = {0: "train", 1: "short", 2: "short"}.get(more, "quiet")
            self.check(one + [0] * more + two, ((5, "1", "short", 0), (13 + more, "2", ahead, 5 + more)))
            # An odd piece and a piece that is no round at all end in the same way.
            odd = [1, 1, 0, 0, 0, 0, 0]
            self.check(odd + [0] * more + two, ((14 + more, "2", ahead, 5 + more),))

    def test_behind_a_key(self):
        two = plain.row("2")
        for closed in range(12):
            ahead = "key" if closed <= 5 else "short" if closed <= 7 else "quiet"
            for keys in (1, 2, 5):
                for before in ([], [0] * 9, [1], plain.row("1"), [1, 0, 0]):
                    tape = before + [2] * keys + [0] * closed + two
                    self.assertEqual(rounds_ahead(tuple(tape))[-1], (len(tape) - 1, "2", ahead, closed))
        # Only the sign right ahead of the closed ticks counts.
        self.check([2, 1, 0, 0, 0, 0, 0] + two, ((6, "1", "key", 0), (14, "2", "train", 5)))
        self.check([2, 0, 0, 0, 1, 0, 0, 0, 0, 0, 0] + two, ((9, "1", "key", 3), (18, "2", "short", 6)))

    def test_no_rounds(self):
        for tape in ((), (0,) * 30, (2,) * 30, (1, 0, 0, 0, 0), (1, 1, 0, 0, 0, 0, 0), (1, 0, 0, 0, 0, 2)):
            self.check(tape, ())

    def test_by_chance(self):
        chance = random.Random(10121)
        words = {}
        for _ in range(300):
            tape = []
            while len(tape) < 150:
                way = chance.random()
                if way < 0.5:
                    tape += plain.row(chance.choice(("1", "2", "3", "11", "12")))
                elif way < 0.8:
                    tape += [0] * chance.randint(1, 9)
                elif way < 0.9:
                    tape += [2] * chance.randint(1, 3)
                else:
                    tape += [chance.choice((0, 1)) for _ in range(chance.randint(1, 6))]
            found = rounds_ahead(tuple(tape))
            self.assertEqual(found, plain_ahead(tape))
            self.assertEqual(tuple(entry[:2] for entry in found), rounds_on(tuple(tape)))
            for entry in found:
                words[entry[2]] = words.get(entry[2], 0) + 1
        for word in WORDS:
            self.assertGreater(words[word], 30)

    def test_long_tapes(self):
        begun = time.monotonic()
        self.assertEqual(len(rounds_ahead(tuple(plain.row("1") * 500))), 500)
        self.assertEqual(len(rounds_ahead((0,) * 2994 + tuple(plain.row("1")))), 1)
        self.assertLess(time.monotonic() - begun, 10)


class DoubtTest(unittest.TestCase):
    def test_beside_plain_searches(self):
        chance = random.Random(10131)
        counts = {}
        for _ in range(400):
            service = some_service(chance, houses=(), cards=())
            loop = chance.randrange(len(service.town.loops))
            number = chance.choice(service.town.numbers + ("1", "2", "11", "12", "3"))
            if chance.random() < 0.4:
                # Two rows, one begun behind the other, can sound like this one.
                longer = "".join(chance.choices(service.town.numbers, k=2))
                number = longer if longer in plain.ALL_NUMBERS else number
            ahead = chance.choice(WORDS)
            boxes, case = plain_case(service, loop, number, ahead)
            rounds = service.town.rounds
            answer, _ = PlainQuestion(number, boxes, rounds=rounds, case=case).search(2000)
            found = doubt(service, loop, number, ahead)
            question = Question(number, boxes, rounds=rounds, case=case)
            if isinstance(answer, list):
                self.assertIsInstance(found, Reading)
                told = (found.number, found.rounds, found.form, found.case, found.first, found.second)
                self.assertEqual(told, (number, rounds, "once", case, tuple(answer), ()))
                self.assertIsNone(cover_fault(question, found.first))
                self.check_deeds(service, loop, found)
            else:
                self.assertIsInstance(found, Safe)
                self.assertEqual(found.number, number)
                ((times, told_case, clean, tree),) = found.papers
                self.assertEqual((times, told_case, clean, told_tree(tree)), (1, case, False, answer))
                self.assertIsNone(tree_fault(question, tree))
            counts[ahead, found.is_safe] = counts.get((ahead, found.is_safe), 0) + 1
        for key in [(word, is_safe) for word in WORDS for is_safe in (True, False)]:
            self.assertGreater(counts.get(key, 0), 3, key)

    def check_deeds(self, service, loop, reading):
        """The deeds of a Reading make a round of the number, without a pull of it."""
        timed, tick = deed_row(service.town, reading, None if service.joining else loop)
        self.assertNotIn(("pull", reading.number), [deed for _, deed in timed])
        line = play(service.town, timed, tick + 1)
        self.assertIn((tick, reading.number), rounds_on(line.near_tape(loop)))

    def test_no_run_makes_a_sure_round(self):
        """[10.13]: a round of a number that nobody pulled is doubtful behind what stands ahead of it."""
        chance = random.Random(10132)
        words = {}
        for _ in range(60):
            service = some_service(chance, houses=(), cards=())
            run = some_run(chance, service)
            first = {}
            for tick, number in run.pullings:
                first.setdefault(number, tick)
            for loop, pair in enumerate(run.tapes):
                for tick, number, ahead, _ in rounds_ahead(pair[0]) + rounds_ahead(pair[1]):
                    if number not in first or first[number] > tick:
                        self.assertFalse(doubt(service, loop, number, ahead).is_safe)
                        words[ahead] = words.get(ahead, 0) + 1
        self.assertTrue({"quiet", "train", "key"} <= set(words), words)

    def test_the_wire(self):
        town = Town([[("1", "plain")], [("2", "plain")], [("12", "shy")]], rounds=1)
        for loop in (0, 1, 2):
            self.assertTrue(doubt(Service(town), loop, "12", "quiet").is_safe)
            joined = doubt(Service(town, joining=True), loop, "12", "quiet")
            self.assertEqual(joined.first, (("1", "pull", 0, 1), ("2", "pull", 4, 1)))
        # The number's own box is left out.
        self.assertTrue(doubt(Service(town), 0, "1", "quiet").is_safe)
        self.assertFalse(doubt(Service(town), 1, "2", "key").is_safe and doubt(Service(town), 1, "1", "key").is_safe)

    def test_whatever_the_service_allows(self):
        """Behind the key a tail can be heard, even where nothing can be cut."""
        town = Town([[("2", "plain"), ("5", "shy")]], rounds=1)
        for service in (Service(town), Service(town, cutting=True)):
            self.assertEqual(doubt(service, 0, "1", "key").first, (("2", "tail", -2, 1),))
            self.assertTrue(doubt(service, 0, "1", "train").is_safe)
            self.assertTrue(doubt(service, 0, "1", "short").is_safe)

    def test_short_has_plain_boxes_alone(self):
        town = Town([[("1", "shy"), ("2", "plain"), ("12", "plain")]], rounds=1)
        service = Service(town)
        self.assertFalse(doubt(service, 0, "12", "quiet").is_safe)
        found = doubt(service, 0, "12", "short")
        self.assertEqual([paper[:3] for paper in found.papers], [(1, "quiet", False)])

    def test_errors(self):
        for thing in plain.ANY_OBJECTS + (-1, 2, 10 ** 39, "0", (0,)):
            for number, ahead in (("24", "quiet"), (None, None), ("0", "short")):
                with self.assertRaises(NoLoop) as caught:
                    doubt(SAFE, thing, number, ahead)
                self.assertIs(caught.exception.loop, thing)
        for thing in plain.ANY_OBJECTS + plain.WHOLE_NUMBERS + ("889", "0", 24, ["24"]):
            for ahead in ("key", None):
                with self.assertRaises(BadNumber) as caught:
                    doubt(SAFE, 1, thing, ahead)
                self.assertIs(caught.exception.number, thing)
        for thing in plain.ANY_OBJECTS + plain.WHOLE_NUMBERS + ("Quiet", "begun", ("quiet",), ["key"]):
            with self.assertRaises(BadCase) as caught:
                doubt(SAFE, 0, "9951", thing)
            self.assertIs(caught.exception.case, thing)
        service = big_service(1, every=2, rounds=8, hear=1, joining=True)
        with self.assertRaises(TooManyCases) as caught:
            for number in service.town.numbers:
                doubt(service, 2, number, "key")
        self.assertIn(caught.exception.number, service.town.numbers)


class SureCallsTest(unittest.TestCase):
    def plain_calls(self, service, tapes):
        """[10.14] call by call and tape by tape."""
        hear = service.town.hear
        found = []
        for tick, number in calls_on([tape for pair in tapes for tape in pair], hear):
            words = []
            for loop, pair in enumerate(tapes):
                for tape in pair:
                    if (tick, number) in heard_on(tape, hear):
                        entries = [entry for entry in plain_ahead(tape) if entry[0] <= tick][-hear:]
                        words += [(loop, entry[2]) for entry in entries]
            sure = any(doubt(service, loop, number, word).is_safe for loop, word in words)
            found.append((tick, number, sure))
        return tuple(found)

    def test_runs(self):
        chance = random.Random(10141)
        counts = {True: 0, False: 0}
        for _ in range(60):
            run = some_run(chance, some_service(chance))
            kind = chance.choice((list, tuple))
            calls = sure_calls(run.service, kind(map(kind, run.tapes)))
            self.assertEqual(calls, self.plain_calls(run.service, run.tapes))
            self.assertEqual(tuple(call[:2] for call in calls), run.hearings)
            for tick, number, is_sure in calls:
                self.assertIs(type(is_sure), bool)
                counts[is_sure] += 1
                if is_sure:
                    self.assertTrue(any(at <= tick and name == number for at, name in run.pullings))
        self.assertGreater(counts[True], 100)
        self.assertGreater(counts[False], 30)

    def test_tapes_by_chance(self):
        """Tapes that no run needs to write, on which near and far differ."""
        chance = random.Random(10142)
        counts = {}
        for _ in range(80):
            service = some_service(chance, houses=(), cards=())
            if chance.random() < 0.5:
                # On its first loop 12 can be made of the two others, behind all that can be ahead.
                town = Town([[("1", "plain"), ("2", "plain")], [("3", "shy")]], rounds=2, hear=chance.randint(1, 2))
                service = Service(town, joining=chance.random() < 0.3)
            tapes = []
            for _ in service.town.loops:
                pair = []
                for _ in range(2):
                    tape = []
                    while len(tape) < 80:
                        tape += chance.choice((plain.row(chance.choice(("1", "12", "3", "12"))) * chance.randint(1, 2),
                                               [0] * chance.randint(1, 9), [2]))
                    pair.append(tuple(tape[:80]))
                tapes.append(tuple(pair))
            calls = sure_calls(service, tapes)
            self.assertEqual(calls, self.plain_calls(service, tapes))
            for _, _, is_sure in calls:
                key = (service.town.hear, is_sure)
                counts[key] = counts.get(key, 0) + 1
        for key in ((1, True), (1, False), (2, True), (2, False)):
            self.assertGreater(counts.get(key, 0), 10, key)

    def test_the_round_ahead_makes_it_sure(self):
        """With hear 2 the first of the two rounds may be the sure one."""
        town = Town([[("2", "plain"), ("1", "plain"), ("5", "shy")]], rounds=2, hear=2)
        service = Service(town)
        row = plain.row("1")
        sure = {word: doubt(service, 0, "1", word).is_safe for word in WORDS}
        self.assertEqual(sure, {"quiet": True, "train": True, "key": False, "short": True})
        for tape in ([2] + row + row, [2] + row + [0] + row):
            tape = tuple(tape)
            self.assertEqual(sure_calls(service, [(tape, tape)]), ((len(tape) - 1, "1", True),))
        # Behind the key again there is no call; a call of two doubtful rounds needs two towns of trains.
        single = service.with_parts(town=town.with_rules(hear=1))
        tape = tuple([2] + row + row + [2] + row)
        self.assertEqual(sure_calls(single, [(tape, tape)]), ((6, "1", False), (12, "1", True), (19, "1", False)))
        # One sure tape is enough.
        other = tuple([0] * 14 + row)
        self.assertEqual(sure_calls(single, [(tape, other)])[-1], (19, "1", True))
        self.assertEqual(sure_calls(single, [(other, tape)])[-1], (19, "1", True))

    def test_no_signs_and_many(self):
        begun = time.monotonic()
        self.assertEqual(sure_calls(SAFE, [((), ())] * 2), ())
        numbers = [number for number in plain.ALL_NUMBERS if len(plain.row(number)) <= 16]
        tape = [sign for number in numbers * 20 for sign in plain.row(number)][:3000]
        service = big_service(7, hear=1)
        calls = sure_calls(service, [(tuple(tape), tuple(tape[::-1]))] * 3)
        self.assertGreater(len(calls), 200)
        self.assertLess(time.monotonic() - begun, 30)

    def test_bad_tapes(self):
        good = ((0, 1), (0, 0))
        for tapes, index in ((None, 2), ([good], 2), ([good, None], 1), ([good, ((0, 1), (0,))], 1),
                             ([([0, 1], (0, 0)), good], 0), (((), ()), 0), ([((0,) * 3001,) * 2] * 2, 0), ({}, 2)):
            with self.assertRaises(BadTapes) as caught:
                sure_calls(SAFE, tapes)
            self.assertEqual(caught.exception.index, index)

    def test_too_many_cases(self):
        service = big_service(1, every=2, rounds=8, hear=1, joining=True)
        town = service.town
        tape = [2]
        for number in town.numbers:
            tape += plain.row(number) + [2]
        with self.assertRaises(TooManyCases):
            sure_calls(service, [(tuple(tape[:3000]),) * 2] * len(town.loops))

    def test_loops_apart(self):
        town = Town([[("2", "plain"), ("5", "shy")], [("3", "shy")]], rounds=1)
        service = Service(town)
        heard, closed = tuple([2] + plain.row("1")), (0,) * 7
        self.assertEqual(sure_calls(service, [(heard, closed), (closed, closed)]), ((6, "1", False),))
        self.assertEqual(sure_calls(service, [(closed, closed), (closed, heard)]), ((6, "1", True),))
        joined = service.with_parts(joining=True)
        self.assertEqual(sure_calls(joined, [(closed, closed), (closed, heard)]), ((6, "1", False),))
        self.assertEqual(TOWN.hear, 2)


if __name__ == "__main__":
    unittest.main()

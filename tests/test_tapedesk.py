"""[10.9] to [10.11] and the heading tapedesk.py."""

import random
import time
import unittest

from tests import plain
from tests.services import PlainRun, levels_for, some_happening, some_service
from tests.shown import SAFE, TOWN
from wheelchorus.cards import read_card
from wheelchorus.errors import BadDeskDeed, BadSigns, BadTapes, NoCall, TopGrade
from wheelchorus.hearing import calls_on
from wheelchorus.service import Service
from wheelchorus.service_run import ServiceRun, play_service
from wheelchorus.tapedesk import TapeDesk, book_fault, desk_book, desk_deeds, desk_rows
from wheelchorus.town import Town
from wheelchorus.watch import Watch

DESK_WORDS = ("call", "more", "back")
# One loop, a number with a card, one round.
ONE = Service(Town([[("1", "plain"), ("2", "plain")]], rounds=1), stations=(0, 0),
              cards=[read_card("1: 0 / 1 0 0 / 0 1 0"), read_card("2: 1 0 / 2 0 0 / 0 0 0")])
ROW_1, ROW_2 = tuple(plain.row("1")), tuple(plain.row("2"))


def some_run(chance, service, ticks=150):
    """A run with happenings of all kinds, also ones behind its last tick."""
    run, model = ServiceRun(service), PlainRun(service)
    for tick in range(ticks + 1):
        while chance.random() < 0.18:
            happening = some_happening(chance, model)
            model.do(happening)
            run.do(happening)
        for house in service.houses:
            if chance.random() < 0.2:
                happening = ("levels", house.box, levels_for(chance, house))
                model.do(happening)
                run.do(happening)
        if tick < ticks:
            model.tick()
            run.tick()
    return run


def plain_rows(run):
    return tuple(row for row in run.book if row[0] in DESK_WORDS)


def told_deeds(run):
    """The officer's deeds, from the log."""
    return tuple((tick, happening) for tick, happening in run.log if happening[0] in ("more", "back"))


class DeskTest(unittest.TestCase):
    def test_new_desk(self):
        desk = TapeDesk(SAFE)
        self.assertEqual((desk.service, desk.clock, desk.book, desk.standing, list(desk), len(desk)),
                         (SAFE, 0, (), SAFE.room.start(), [], 0))

    def test_beside_runs(self):
        chance = random.Random(10901)
        rows = 0
        for _ in range(50):
            service = some_service(chance)
            run = some_run(chance, service)
            desk = TapeDesk(service)
            deeds = list(told_deeds(run))
            heard = []
            for tick in range(run.clock + 1):
                while deeds and deeds[0][0] == tick:
                    _, (word, number) = deeds.pop(0)
                    row = desk.more(number) if word == "more" else desk.back(number)
                    self.assertEqual(row, desk.book[-1])
                    self.assertEqual(row[:3], (word, tick, number))
                if tick < run.clock:
                    kind = chance.choice((list, tuple))
                    near = kind(pair[0][tick] for pair in run.tapes)
                    far = kind(pair[1][tick] for pair in run.tapes)
                    numbers = desk.take(near, far)
                    self.assertIs(type(numbers), tuple)
                    heard += [(tick, number) for number in numbers]
                self.assertEqual(desk.clock, min(tick + 1, run.clock))
            self.assertEqual(tuple(heard), run.hearings)
            self.assertEqual(desk.book, plain_rows(run))
            self.assertEqual((tuple(desk), len(desk)), (desk.book, len(desk.book)))
            self.assertEqual(desk.standing[0], tuple(map(run.place, range(len(service.stations)))))
            rows += len(desk)
        self.assertGreater(rows, 150)

    def test_known(self):
        desk = TapeDesk(ONE)
        for near, far in zip(ROW_1, (0,) + ROW_2):
            last = desk.take([near], (far,))
        self.assertEqual(last, ("1",))
        self.assertEqual(desk.book, (("call", 5, "1", 1, (0,), (), 0),))
        self.assertEqual(desk.more("1"), ("more", 6, "1", 2, (), (), 0))
        self.assertEqual([desk.take([0], [sign]) for sign in (0, 0, 0)], [(), (), ("2",)])
        self.assertEqual(desk.book[-1], ("call", 8, "2", 1, (1,), (), 0))
        self.assertEqual(desk.back("1"), ("back", 9, "1", (0,), ()))
        self.assertEqual(desk.standing, ((("in", 0), ("out", "2")), (0, 1)))

    def test_bad_signs(self):
        desk = TapeDesk(SAFE)
        desk.take([1, 0], (2, 0))
        wrong = plain.ANY_OBJECTS + plain.WHOLE_NUMBERS + (
            [0], (0, 0, 0), [0, 3], [0, -1], (True, 0), [0, False], "00", [None, 0], ["0", 0], {0: 0, 1: 1}, [[0], 0])
        for thing in wrong:
            if thing == (1, 2):
                continue
            for near, far, what in ((thing, [0, 0], "near"), (thing, None, "near"), ([0, 0], thing, "far")):
                with self.assertRaises(BadSigns) as caught:
                    desk.take(near, far)
                self.assertEqual(caught.exception.what, what)
        self.assertEqual(desk.clock, 1)

    def test_errors_of_the_watch(self):
        desk = TapeDesk(ONE)
        for thing in plain.ANY_OBJECTS + ("1", "2", "9", 1):
            for method in (desk.more, desk.back):
                with self.assertRaises(NoCall) as caught:
                    method(thing)
                self.assertIs(caught.exception.number, thing)
        for sign in ROW_1:
            desk.take([sign], [sign])
        desk.more("1")
        desk.more("1")
        book = desk.book
        with self.assertRaises(TopGrade) as caught:
            desk.more("1")
        self.assertEqual((caught.exception.number, desk.book), ("1", book))

    def test_two_desks_have_nothing_in_common(self):
        one, other = TapeDesk(ONE), TapeDesk(ONE)
        for sign in ROW_1:
            one.take([sign], [sign])
        self.assertEqual((other.clock, other.book, other.standing), (0, (), ONE.room.start()))


class RowsTest(unittest.TestCase):
    def test_rows_and_deeds(self):
        chance = random.Random(10902)
        for _ in range(30):
            run = some_run(chance, some_service(chance), 80)
            for book in (run.book, list(run.book)):
                self.assertEqual(desk_rows(book), plain_rows(run))
                self.assertEqual(desk_deeds(book), told_deeds(run))
        self.assertEqual((desk_rows(()), desk_deeds([])), ((), ()))


class BookTest(unittest.TestCase):
    def test_books_of_runs(self):
        chance = random.Random(10903)
        for _ in range(50):
            run = some_run(chance, some_service(chance))
            deeds = desk_deeds(run.book)
            tapes = run.tapes
            for things in (tapes, list(map(list, tapes))):
                for timed in (deeds, list(deeds)):
                    self.assertEqual(desk_book(run.service, things, timed), plain_rows(run))

    def test_deeds_behind_the_last_tick_and_no_signs(self):
        tapes = [(ROW_1, ROW_1)]
        self.assertEqual(desk_book(ONE, tapes, [(6, ("more", "1")), (6, ("back", "1"))]), (
            ("call", 5, "1", 1, (0,), (), 0), ("more", 6, "1", 2, (), (), 0), ("back", 6, "1", (0,), ())))
        with self.assertRaises(NoCall):
            desk_book(ONE, tapes, [(5, ("more", "1"))])
        self.assertEqual(desk_book(ONE, [((), ())], ()), ())
        with self.assertRaises(NoCall):
            desk_book(ONE, [((), ())], [(0, ("back", "1"))])
        with self.assertRaises(BadDeskDeed):
            desk_book(ONE, [((), ())], [(1, ("back", "1"))])
        with self.assertRaises(TopGrade):
            desk_book(ONE, tapes, [(6, ("more", "1"))] * 3)

    def test_3000_signs(self):
        begun = time.monotonic()
        tape = (ROW_1 * 500)[:3000]
        service = SAFE.with_parts(town=TOWN.with_rules(hear=1))
        other = tuple(plain.row("24")) * 166 + (0,) * 12
        self.assertEqual((len(tape), len(other)), (3000, 3000))
        found = desk_book(service, ((other, other), (tape, tape)), [(20, ("back", "24")), (3000, ("more", "24"))])
        self.assertEqual([row[:3] for row in found], [("call", 17, "24"), ("back", 20, "24"), ("call", 35, "24"),
                                                      ("more", 3000, "24")])
        self.assertIsNone(book_fault(service, ((other, other), (tape, tape)), found))
        longer = tape + (0,)
        for pairs, index in (([(longer, longer)] * 2, 0), ([(tape, tape), (longer, longer)], 1)):
            with self.assertRaises(BadTapes) as caught:
                desk_book(service, pairs, ())
            self.assertEqual(caught.exception.index, index)
        self.assertLess(time.monotonic() - begun, 20)

    def test_bad_tapes_come_first(self):
        good = ((0, 1, 2), (0, 0, 0))
        wrong = plain.ANY_OBJECTS + plain.WHOLE_NUMBERS + (
            (good[0],), good + good[:1], ([0, 1, 2], (0, 0, 0)), ((0, 1, 2), [0, 0, 0]), ((0, 1), (0, 0, 0)),
            ((0, 1, 2), (0, 1)), ((0, 1, 3), (0, 0, 0)), ((0, 1, True), (0, 0, 0)), ("012", "000"), {0: good[0], 1: good[1]},
            (good, good), (None, good[0]), ((0, None, 2), (0, 0, 0)),
        )
        for thing in wrong:
            for tapes, index in (([thing, good], 0), ((good, thing), 1), ([thing, thing], 0)):
                self.check_tapes(SAFE, tapes, index)
        self.check_tapes(SAFE, [((0,), (0,)), good], 1)
        self.check_tapes(SAFE, [((), ()), good], 1)
        # How many loops there are is checked first, of any object.
        for tapes in plain.ANY_OBJECTS + plain.WHOLE_NUMBERS + ([good], [good] * 3, (None,) * 3, {0: good, 1: good}, "01"):
            if tapes != (1, 2) and tapes != ["12", "plain"] and tapes != ((), []):
                self.check_tapes(SAFE, tapes, 2)

    def check_tapes(self, service, tapes, index):
        for call in (lambda: desk_book(service, tapes, [None]), lambda: book_fault(service, tapes, [None])):
            with self.assertRaises(BadTapes) as caught:
                call()
            self.assertEqual(caught.exception.index, index)

    def test_bad_deeds(self):
        tapes = [(ROW_1, ROW_1)]
        good = (3, ("more", None))
        wrong = plain.ANY_OBJECTS + plain.WHOLE_NUMBERS + (
            (3, ("call", "1")), (3, ("pull", "1")), (3, ["more", "1"]), [3, ("more", "1")], (3, ("more",)), (3, "more"),
            (3, ("more", "1", 1)), (3, ("more", "1"), 1), (7, ("more", "1")), (2, ("more", "1")), (-1, ("back", "1")),
            (True, ("back", "1")), ("3", ("back", "1")), (None, ("back", "1")), (3, ("More", "1")), (3, None),
            (3, (["more"], "1")), (3, {"more": "1"}), ("more", "1"),
        )
        for thing in wrong:
            for deeds, index in (([good, thing], 1), ((good, good, thing, None), 2)):
                with self.assertRaises(BadDeskDeed) as caught:
                    desk_book(ONE, tapes, deeds)
                self.assertEqual(caught.exception.index, index)
        for thing in ((-1, ("back", "1")), (7, ("back", "1")), (False, ("back", "1"))):
            with self.assertRaises(BadDeskDeed) as caught:
                desk_book(ONE, tapes, [thing])
            self.assertEqual(caught.exception.index, 0)
        for thing in plain.ANY_OBJECTS:
            for word in ("more", "back"):
                with self.assertRaises(NoCall) as caught:
                    desk_book(ONE, tapes, [(6, (word, thing))])
                self.assertIs(caught.exception.number, thing)


class PlainDesk:
    """A desk for the judge below: what is heard at each tick, by the tapes' calls, and a watch."""

    def __init__(self, service, tapes):
        self.watch = Watch(service.room)
        self.calls = calls_on([tape for pair in tapes for tape in pair], service.town.hear)
        self.ticks = len(tapes[0][0])


def plain_fault(service, tapes, book):
    """[10.11]: all rows that are due, one by one, each asked against what stands in the book."""
    desk = PlainDesk(service, tapes)
    left = list(enumerate(book))
    for tick in range(desk.ticks + 1):
        while left and type(left[0][1]) is tuple and len(left[0][1]) >= 3 and left[0][1][0] in ("more", "back") and (
                type(left[0][1][1]) is int and left[0][1][1] == tick):
            index, row = left.pop(0)
            try:
                told = getattr(desk.watch, row[0])(row[2])
            except (NoCall, TopGrade):
                return index
            if row != (row[0], tick, row[2], *told):
                return index
        for _, number in [call for call in desk.calls if call[0] == tick]:
            told = desk.watch.call(number)
            if told is not None:
                if not left:
                    return len(book)
                index, row = left.pop(0)
                if row != ("call", tick, number, *told):
                    return index
    return left[0][0] if left else None


class BookFaultTest(unittest.TestCase):
    def check(self, service, tapes, book, fault):
        for things in (list(book), tuple(book)):
            self.assertEqual(book_fault(service, tapes, things), fault)

    def test_books_of_runs_and_changed_ones(self):
        chance = random.Random(10111)
        faults = {}
        for _ in range(120):
            run = some_run(chance, some_service(chance), 120)
            book = list(plain_rows(run))
            self.check(run.service, run.tapes, book, None)
            for _ in range(6):
                changed = self.changed(chance, run, book)
                fault = plain_fault(run.service, run.tapes, changed)
                self.check(run.service, run.tapes, changed, fault)
                key = "none" if fault is None else "end" if fault == len(changed) else "row"
                faults[key] = faults.get(key, 0) + 1
        for key in ("none", "end", "row"):
            self.assertGreater(faults.get(key, 0), 20, key)

    def changed(self, chance, run, book):
        book = list(book)
        at = chance.randrange(len(book)) if book else 0
        way = chance.randrange(7)
        if way == 0 or not book:
            number = chance.choice(run.service.town.numbers)
            word = chance.choice(DESK_WORDS)
            tick = chance.randint(0, run.clock)
            row = ("back", tick, number, (), ()) if word == "back" else (word, tick, number, 1, (), (), 0)
            book.insert(at, row)
        elif way == 1:
            book.pop(at)
        elif way == 2:
            book.insert(at, book[at])
        elif way == 3:
            row = list(book[at])
            row[chance.randrange(len(row))] = chance.choice((None, 0, 1, True, "1", (), "more", "back", "call"))
            book[at] = tuple(row)
        elif way == 4:
            book[at] = chance.choice((list(book[at]), book[at][:-1], book[at] + (0,), book[at][:2], None))
        elif way == 5:
            book = book[:at]
        else:
            other = chance.randrange(len(book))
            book[at], book[other] = book[other], book[at]
        return book

    def test_known(self):
        tapes = [(ROW_1 + ROW_2,) * 2]
        one, two = ("call", 5, "1", 1, (0,), (), 0), ("call", 13, "2", 1, (1,), (), 0)
        more, back = ("more", 6, "1", 2, (), (), 0), ("back", 14, "1", (0,), ())
        check = lambda book, fault: self.check(ONE, tapes, book, fault)
        check([one, two], None)
        check([one, more, two, back], None)
        check([], 0)
        check([one], 1)
        check([two], 0)
        check([two, one], 0)
        check([one, one, two], 1)
        check([one, two, two], 2)
        check([one, two, None], 2)
        check([more, one, two], 0)
        # Behind the call of its very tick it cannot be done any more at this tick.
        check([one, ("more", 5, "1", 2, (), (), 0), two], 1)
        check([one, two, more], 2)
        check([one, two, ("back", 15, "1", (0,), ())], 2)
        check([one, ("more", 6, "1", 2, (), (), 1), two], 1)
        check([one, ("more", 6, "2", 2, (), (), 0), two], 1)
        check([one, more, more, two], 2)
        check([one, more, ("more", 6, "1", 3, (), (), 0), ("more", 6, "1", 4, (), (), 0), two], 3)
        check([one, list(more), two], 1)
        check([list(one), two], 0)
        check([one, more[:3], two], 1)
        check([one, more[:2], two], 1)
        # What equals a row is the row.
        check([("call", 5, "1", True, (0,), (), False), two], None)
        check([one, ("more", 6, "1", 2, (), (), False), two], None)
        check([one, ("more", True, "1", 2, (), (), 0), two], 1)

    def test_true_is_no_tick(self):
        """A back at tick 1 would be done; with True as its tick the row stands where nothing awaits it."""
        service = ONE.with_parts(cards=[read_card("1: - / 0 0 0 / 0 0 0")])
        tapes = [(ROW_1[1:], ROW_1[1:])]
        self.check(service, tapes, [("more", True, "1")], 0)
        self.check(service, tapes, [("more", False, "1")], 0)
        self.check(service, [((), ())], [("more", False, "1", 2, (), (), 0)], 0)
        self.check(service, [((), ())], [("more", 0, "1", 2, (), (), 0)], 0)
        tapes = [(ROW_1, ROW_1)]
        call = ("call", 5, "1", 1, (), (), 0)
        self.check(service, tapes, [call, ("back", 6, "1", (), ())], None)

    def test_any_object(self):
        tapes = [(ROW_1, ROW_1)]
        call = ("call", 5, "1", 1, (0,), (), 0)
        for thing in plain.ANY_OBJECTS + plain.WHOLE_NUMBERS:
            self.check(ONE, tapes, [thing, call], 0)
            self.check(ONE, tapes, [call, thing], 1)
            self.check(ONE, tapes, [call, ("more", 6, thing)], 1)
            self.check(ONE, tapes, [call, ("back", 6, thing, thing, thing)], 1)
            self.check(ONE, tapes, [call, (thing, 6, "1")], 1)
            self.check(ONE, tapes, [call, ("back", thing, "1", (0,), ())], 1)


if __name__ == "__main__":
    unittest.main()

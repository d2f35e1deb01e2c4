"""[9.3] to [9.9] and the heading service_run.py."""

import random
import time
import unittest

from tests import plain
from tests.rings import all_faults, no_faults
from tests.services import PlainRun, levels_for, run_told, some_happening, some_service
from wheelchorus.cards import read_card
from wheelchorus.errors import (
    BadFault, BadHappening, BadLevels, BadTimed, NoBox, NoCall, NoFault, NoHouse, NoLoop, NoPlace, NoStretch,
    NotAllowed, NotNow, TopGrade, WheelError,
)
from wheelchorus.hearing import calls_on
from wheelchorus.house import House
from wheelchorus.line import play
from wheelchorus.service import Service
from wheelchorus.service_run import ServiceRun, play_service
from wheelchorus.town import Town

TOWN = Town([[("2", "plain"), ("3", "shy")], [("12", "shy")]], rounds=2)
FULL = Service(
    TOWN, houses=[House("2", "sos", mark=5, rows=2), House("12", "s", mark=0, rows=1)], stations=(0, 0, 1),
    cards=[read_card("2: 0 / 1 0 0 / 1 2 0"), read_card("3: 2 / 1 0 0 / 0 0 0 / 1>1")], cutting=True, joining=True,
)
BARE = Service(TOWN, houses=FULL.houses, stations=(0, 0, 1), cards=FULL.cards)


def calls_of(run):
    """Each method of a happening that can fail, by its word."""
    return {"pull": run.pull, "cut": run.cut, "mend": run.mend, "join": run.join, "part": run.part,
            "fault": run.fault, "heal": run.heal, "levels": run.levels, "more": run.more, "back": run.back}


class BesideModelTest(unittest.TestCase):
    def do_both(self, run, model, happening, by_do):
        told = model.do(happening)
        word, *rest = happening
        found = run.do(happening) if by_do else calls_of(run)[word](*rest)
        self.assertEqual(found, told)
        if told is not None:
            self.assertIs(type(found), type(told))

    def give_levels(self, chance, run, model, eager):
        for house in run.service.houses:
            while house.box in eager and chance.random() < 0.9:
                levels = levels_for(chance, house)
                self.do_both(run, model, ("levels", house.box, chance.choice((list, tuple))(levels)), chance.random() < 0.5)
                if chance.random() < 0.8:
                    break

    def test_runs_beside_a_plain_model(self):
        chance = random.Random(941)
        words = {}
        for _ in range(60):
            service = some_service(chance)
            run, model = ServiceRun(service), PlainRun(service)
            self.assertEqual(run_told(run), model.told())
            for _ in range(chance.randint(1, 12)):
                for _ in range(chance.choice((0, 1, 1, 2, 4))):
                    self.do_both(run, model, some_happening(chance, model), chance.random() < 0.5)
                eager = [house.box for house in service.houses if chance.random() < 0.4]
                for _ in range(chance.choice((1, 3, 10, 20))):
                    self.give_levels(chance, run, model, eager)
                    self.assertEqual(run.tick(), model.tick())
                self.assertEqual(run_told(run), model.told())
            self.assertEqual(tuple(run), run.book)
            self.assertEqual(len(run), len(run.book))
            again = play_service(service, run.log, run.clock)
            self.assertEqual(run_told(again), model.told())
            for row in run.book:
                words[row[0]] = words.get(row[0], 0) + 1
        for word in ("pull", "warning", "cut", "mend", "join", "part", "fault", "heal", "call", "more", "back"):
            self.assertGreater(words.get(word, 0), 10, word)

    def test_a_line_and_its_ears(self):
        """Without houses and cards a run is a line whose tapes are heard."""
        chance = random.Random(942)
        heard = 0
        for _ in range(40):
            service = some_service(chance, houses=(), cards=())
            model = PlainRun(service)
            timed = []
            for tick in range(150):
                if chance.random() < 0.1:
                    happening = some_happening(chance, model)
                    model.do(happening)
                    timed.append((tick, happening))
                model.tick()
            run = play_service(service, chance.choice((list, tuple))(timed), 150)
            line = play(service.town, timed, 150)
            self.assertEqual((run.tapes, run.cuts, run.is_joined), (line.tapes, line.cuts, line.is_joined))
            self.assertEqual(run.hearings, calls_on([tape for pair in line.tapes for tape in pair], service.town.hear))
            heard += len(run.hearings)
        self.assertGreater(heard, 100)


class KnownTest(unittest.TestCase):
    def test_new_run(self):
        run = ServiceRun(FULL)
        self.assertEqual(run.service, FULL)
        self.assertEqual(run_told(run), (
            0, False, ((), ()), (((), ()), ((), ())), (), (), (), (), (), ((0, 0, None, 0),) * 3, True, (0, 0, 0),
            (("in", 0), ("in", 0), ("in", 1))))
        self.assertEqual((list(run), len(run)), ([], 0))

    def test_one_tick_in_its_order(self):
        """A warning begins its box at the very tick, and all rows of a tick carry the clock ahead of it."""
        service = Service(Town([[("1", "plain")]], rounds=1), houses=[House("1", "s", mark=0, rows=1)],
                          cards=[read_card("1: 0 / 1 1 1 / 0 0 0")])
        run = ServiceRun(service)
        run.levels("1", [1])
        self.assertEqual([run.tick() for _ in range(6)], [(), (), (), (), (), ("1",)])
        self.assertEqual(run.tapes, (((1, 0, 0, 0, 0, 0),) * 2,))
        self.assertEqual(run.book, (("warning", 0, "1", True), ("call", 5, "1", 1, (0,), (), 0)))
        self.assertEqual((run.hearings, run.sendings, run.pullings), (((5, "1"),), ((5, "1"),), ((0, "1"),)))
        self.assertEqual((run.log, run.clock), (((0, ("levels", "1", (1,))),), 6))

    def test_numbers_heard_ascending_and_numbers_without_a_card(self):
        town = Town([[("9", "plain")], [("12", "plain")], [("111", "plain")]], rounds=1)
        lengths = [len(plain.row(number)) for number in ("9", "12", "111")]
        service = Service(town, cards=[read_card("9: - / 0 0 0 / 0 0 0"), read_card("111: 0 / 1 0 0 / 0 0 0")])
        end = max(lengths)
        timed = sorted((end - length, ("pull", number)) for length, number in zip(lengths, ("9", "12", "111")))
        run = play_service(service, timed, end - 1)
        self.assertEqual(run.tick(), ("111", "12", "9"))
        self.assertEqual(run.hearings, tuple((end - 1, number) for number in ("111", "12", "9")))
        self.assertEqual(run.sendings, run.hearings)
        self.assertEqual(run.book[3:], (("call", end - 1, "111", 1, (0,), (), 0), ("call", end - 1, "9", 1, (), (), 0)))

    def test_a_number_that_is_heard_and_is_not_of_the_town(self):
        town = Town([[("1", "plain"), ("2", "plain")]], rounds=1)
        run = play_service(Service(town, cards=[read_card("1: 0 / 1 0 0 / 0 0 0")]),
                           [(0, ("pull", "1")), (4, ("pull", "2"))], 20)
        self.assertEqual([number for _, number in run.hearings], ["12"])
        self.assertEqual([number for _, number in run.sendings], ["1", "2"])
        self.assertEqual([row[0] for row in run], ["pull", "pull"])
        self.assertEqual(run.grade("12"), 0)

    def test_houses_whose_box_turns_already(self):
        run = ServiceRun(FULL)
        run.pull("2")
        run.levels("12", [1])
        run.tick()
        run.levels("2", [6, 6])
        run.tick()
        run.levels("2", [6, 6])
        run.levels("12", [1])
        run.tick()
        self.assertEqual(run.book, (("pull", 0, "2", True), ("warning", 0, "12", True), ("warning", 2, "2", False),
                                    ("warning", 2, "12", False)))
        self.assertEqual(run.pullings, ((0, "2"), (0, "12")))
        self.assertIs(run.rests(), False)

    def test_houses_in_the_order_of_the_service(self):
        for houses in (FULL.houses, FULL.houses[::-1]):
            run = ServiceRun(FULL.with_parts(houses=houses))
            for tick in range(2):
                for house in FULL.houses:
                    run.levels(house.box, (9,) * house.seekers if tick or house.box == "2" else (0,))
                run.tick()
            boxes = tuple(house.box for house in houses)
            self.assertEqual(run.book, tuple(("warning", 1, box, True) for box in boxes))
            self.assertEqual(run.pullings, tuple((1, box) for box in boxes))

    def test_levels_hold_for_one_tick_and_the_later_ones_count(self):
        run = ServiceRun(FULL)
        run.levels("2", [6, 6])
        run.tick()
        run.tick()
        run.levels("2", [6, 6])
        run.tick()
        self.assertEqual(run.book, ())
        first = [6, 6]
        run.levels("2", (5, 5))
        run.levels("2", first)
        first[:] = [0, 0]
        run.tick()
        self.assertEqual(run.book, (("warning", 3, "2", True),))
        run.levels("12", [1])
        run.levels("12", (0,))
        run.tick()
        self.assertEqual(run.pullings, ((3, "2"),))
        self.assertEqual(run.log, (
            (0, ("levels", "2", (6, 6))), (2, ("levels", "2", (6, 6))), (3, ("levels", "2", (5, 5))),
            (3, ("levels", "2", (6, 6))), (4, ("levels", "12", (1,))), (4, ("levels", "12", (0,)))))

    def test_faults(self):
        run = ServiceRun(FULL)
        self.assertIsNone(run.fault("2", ("short", 0)))
        self.assertIsNone(run.do(("fault", "2", ("short", 0))))
        self.assertIsNone(run.fault("2", ("cut", 3)))
        for _ in range(3):
            run.levels("2", (6, 6))
            run.tick()
        self.assertIsNone(run.heal("2", ("short", 0)))
        self.assertEqual(run.book, (("fault", 0, "2", ("short", 0)), ("fault", 0, "2", ("short", 0)),
                                    ("fault", 0, "2", ("cut", 3)), ("heal", 3, "2", ("short", 0))))
        with self.assertRaises(NoFault):
            run.heal("2", ("short", 0))
        for _ in range(2):
            run.levels("2", (6, 6))
            run.tick()
        self.assertEqual(run.book[-1], ("warning", 4, "2", True))

    def test_desk_rows(self):
        run = ServiceRun(FULL)
        run.pull("2")
        for _ in range(20):
            run.tick()
        self.assertEqual(run.more("2"), (2, (), (), 1))
        self.assertEqual(run.do(("back", "2")), ((0,), ()))
        self.assertEqual(run.book[1:], (("call", 7, "2", 1, (0,), (), 0), ("more", 20, "2", 2, (), (), 1),
                                        ("back", 20, "2", (0,), ())))
        # The second round called an open number, which does nothing.
        self.assertEqual(run.hearings, ((7, "2"), (15, "2")))

    def test_ticks(self):
        run = ServiceRun(FULL)
        self.assertEqual(list(run.ticks(0)), [])
        found = []
        for numbers in run.ticks(12):
            found.append((run.clock, numbers))
            if run.clock == 1:
                run.pull("2")
        self.assertEqual([tick for tick, _ in found], list(range(1, 13)))
        self.assertEqual([entry for entry in found if entry[1]], [(9, ("2",))])
        waiting = run.ticks(2)
        self.assertEqual(run.clock, 12)
        next(waiting)
        self.assertEqual(run.clock, 13)

    def test_a_run_with_cuts_and_joins_amid(self):
        timed = [(0, ("join",)), (3, ("pull", "2")), (4, ("cut", 0, 1)), (9, ("part",)), (9, ("mend", 0, 1)),
                 (20, ("cut", 1, 0)), (21, ("join",)), (60, ("mend", 1, 0))]
        run = play_service(FULL, timed, 80)
        line = play(TOWN, timed, 80)
        self.assertEqual((run.tapes, run.cuts, run.is_joined), (line.tapes, ((), ()), True))
        # The cut holds the key amid the first round, so that the second one is heard alone.
        self.assertEqual(run.book, (
            ("join", 0), ("pull", 3, "2", True), ("cut", 4, 0, 1), ("part", 9), ("mend", 9, 0, 1),
            ("call", 18, "2", 1, (0,), (), 0), ("cut", 20, 1, 0), ("join", 21), ("mend", 60, 1, 0)))
        self.assertEqual(run.log, tuple(timed))

    def test_results_are_new(self):
        run = play_service(FULL, [(0, ("pull", "2"))], 10)
        kept = run_told(run)
        for thing in (run.book, run.log, run.hearings, run.sendings, run.pullings):
            self.assertIs(type(thing), tuple)
        rows = iter(run)
        self.assertEqual(next(rows), ("pull", 0, "2", True))
        run.pull("3")
        run.tick()
        self.assertEqual(kept, run_told(play_service(FULL, [(0, ("pull", "2"))], 10)))

    def test_two_runs_have_nothing_in_common(self):
        one, other = ServiceRun(FULL), ServiceRun(FULL)
        one.fault("2", ("cut", 0))
        one.pull("3")
        one.levels("12", [1])
        for _ in range(40):
            one.tick()
        self.assertEqual(run_told(other), run_told(ServiceRun(FULL)))
        self.assertIsNot(one.rests(), None)


class ErrorsTest(unittest.TestCase):
    def busy(self, service=FULL):
        timed = [(0, ("join",)), (1, ("fault", "2", ("cut", 1))), (2, ("cut", 0, 1)), (3, ("mend", 0, 1)), (3, ("part",)),
                 (9, ("pull", "3"))]
        if service is BARE:
            timed = [entry for entry in timed if entry[1][0] in ("fault", "pull")]
        run = play_service(service, timed, 40)
        run.levels("2", (6, 6))
        self.assertEqual(run.grade("3"), 1)
        return run

    def check(self, error, method, *arguments, service=FULL, **attributes):
        run = self.busy(service)
        before = run_told(run)
        for call in (lambda: calls_of(run)[method](*arguments), lambda: run.do((method,) + arguments)):
            with self.assertRaises(error) as caught:
                call()
            for name, worth in attributes.items():
                self.assertIs(getattr(caught.exception, name), worth) if isinstance(worth, (list, dict)) else (
                    self.assertEqual(getattr(caught.exception, name), worth))
            self.assertEqual(run_told(run), before)
        # The levels that were given ahead of the call still hold.
        run.tick()
        run.levels("2", (6, 6))
        run.tick()
        self.assertEqual(run.pullings[-1], (41, "2"))

    def test_not_allowed_comes_first(self):
        for word, arguments in (("cut", (0, 1)), ("mend", (0, 1)), ("cut", (None, [])), ("mend", (9, 9)), ("join", ()),
                                ("part", ())):
            self.check(NotAllowed, word, *arguments, service=BARE, word=word)
        for word in ("cut", "mend"):
            run = ServiceRun(BARE.with_parts(joining=True))
            with self.assertRaises(NotAllowed):
                calls_of(run)[word](0, 0)
            run.join()
        for word in ("join", "part"):
            run = ServiceRun(BARE.with_parts(cutting=True))
            with self.assertRaises(NotAllowed):
                calls_of(run)[word]()
            run.cut(0, 0)

    def test_no_house_comes_first(self):
        for thing in plain.ANY_OBJECTS + plain.WHOLE_NUMBERS + ("3", "9", "1", 2, ("2",), ["2"], {"2": 1}):
            self.check(NoHouse, "fault", thing, None, box=thing)
            self.check(NoHouse, "heal", thing, ("cut", 1), box=thing)
            self.check(NoHouse, "levels", thing, [None] * 7, box=thing)

    def test_errors_of_the_line(self):
        for thing in plain.ANY_OBJECTS + ("9", 2):
            self.check(NoBox, "pull", thing, number=thing)
            self.check(NoLoop, "cut", thing, thing, loop=thing)
            self.check(NoLoop, "mend", thing, 0, loop=thing)
        for thing in plain.ANY_OBJECTS + ("0", 3, -1):
            self.check(NoStretch, "cut", 0, thing, loop=0, stretch=thing)
            self.check(NoStretch, "mend", 1, thing, loop=1, stretch=thing)
        self.check(NoLoop, "cut", 2, 0, loop=2)
        self.check(NoStretch, "cut", 1, 2, loop=1, stretch=2)
        self.check(NoStretch, "mend", 0, 1, loop=0, stretch=1)
        self.check(NotNow, "part", word="part")
        run = ServiceRun(FULL)
        run.join()
        with self.assertRaises(NotNow):
            run.join()
        run.cut(0, 1)
        with self.assertRaises(NoStretch):
            run.cut(0, 1)
        self.assertEqual(run.book, (("join", 0), ("cut", 0, 0, 1)))

    def test_errors_of_the_panel(self):
        for thing in no_faults("sos"):
            self.check(BadFault, "fault", "2", thing, fault=thing)
            self.check(BadFault, "heal", "2", thing, fault=thing)
        for fault in all_faults("sos"):
            if fault != ("cut", 1):
                self.check(NoFault, "heal", "2", fault, fault=fault)
        for levels in ([], (), [6], (6, 6, 6), [None] * 3):
            self.check(BadLevels, "levels", "2", levels, what="length", at=len(levels))
        for thing in plain.ANY_OBJECTS:
            self.check(BadLevels, "levels", "2", [thing, None], what="level", at=0)
            self.check(BadLevels, "levels", "2", (6, thing), what="level", at=1)

    def test_errors_of_the_watch(self):
        for thing in plain.ANY_OBJECTS + plain.WHOLE_NUMBERS + ("2", "12", "9", 3, ["3"]):
            self.check(NoCall, "more", thing, number=thing)
            self.check(NoCall, "back", thing, number=thing)
        run = self.busy()
        run.more("3")
        run.more("3")
        before = run_told(run)
        for call in (lambda: run.more("3"), lambda: run.do(("more", "3"))):
            with self.assertRaises(TopGrade) as caught:
                call()
            self.assertEqual(caught.exception.number, "3")
            self.assertEqual(run_told(run), before)

    def test_what_is_asked_of_a_run(self):
        run = self.busy()
        for thing in plain.ANY_OBJECTS + plain.WHOLE_NUMBERS + ("9",):
            with self.assertRaises(NoBox) as caught:
                run.box(thing)
            self.assertIs(caught.exception.number, thing)
            self.assertEqual(run.grade(thing), 0)
            if type(thing) is not int or thing not in (0, 1):
                with self.assertRaises(NoPlace) as caught:
                    run.place(thing)
                self.assertIs(caught.exception.crew, thing)

    def test_bad_happenings(self):
        forms = {"pull": ("2",), "cut": (0, 0), "mend": (0, 0), "join": (), "part": (), "fault": ("2", ("cut", 0)),
                 "heal": ("2", ("cut", 1)), "levels": ("2", (6, 6)), "more": ("3",), "back": ("3",)}
        things = list(plain.ANY_OBJECTS + plain.WHOLE_NUMBERS)
        for word, rest in forms.items():
            things += [[word, *rest], (word, *rest, None), (word.upper(), *rest), word, ((word, *rest),), ([word], *rest),
                       (None, *rest), ((word,), *rest), {word: rest}]
            things += [(word, *rest[:-1])] if rest else []
        things += [("call", "3"), ("tick",), ("warning", "2"), ("ticks", 3), ("", "2")]
        run = self.busy()
        before = run_told(run)
        for thing in things:
            with self.assertRaises(BadHappening) as caught:
                run.do(thing)
            self.assertIs(caught.exception.happening, thing)
            self.assertEqual(run_told(run), before)


class PlayTest(unittest.TestCase):
    def test_happenings_at_the_last_tick_come_behind_it(self):
        run = play_service(FULL, [(0, ("pull", "2")), (5, ("pull", "3")), (5, ("levels", "12", [1]))], 5)
        self.assertEqual((run.clock, len(run.log)), (5, 3))
        self.assertEqual(run.box("3")[:3], (2, 0, None))
        self.assertEqual(run.box("2")[:3], (2, 0, 5))
        self.assertEqual(run.tick(), ())
        self.assertEqual(run.book[-1], ("warning", 5, "12", True))
        self.assertEqual(play_service(FULL, (), 0).clock, 0)
        self.assertEqual(play_service(FULL, [(0, ("join",))], 0).is_joined, True)

    def test_bad_timed_ahead_of_the_first_happening(self):
        good = (3, ("pull", "2"))
        wrong = plain.ANY_OBJECTS + ((3,), (3, ("pull", "2"), 1), [3, ("pull", "2")], (True, good), (None, good),
                                     ("3", good), (-1, good), (11, good), (2, good))
        for thing in wrong:
            if thing == (1, 2):
                continue
            with self.assertRaises(BadTimed) as caught:
                play_service(FULL, [good, thing, None], 10)
            self.assertEqual(caught.exception.index, 1)
            # A happening that would fail stands ahead of it.
            with self.assertRaises(BadTimed) as caught:
                play_service(FULL, ((0, None), (0, ("pull", "9")), good, thing), 10)
            self.assertEqual(caught.exception.index, 3)

    def test_errors_come_through(self):
        for happening, error in ((None, BadHappening), (("pull", "9"), NoBox), (("heal", "2", ("cut", 0)), NoFault),
                                 (("more", "3"), NoCall), (("levels", "3", ()), NoHouse), (("part",), NotNow)):
            with self.assertRaises(error):
                play_service(FULL, [(4, happening)], 9)
            with self.assertRaises(WheelError):
                play_service(BARE, [(4, ("cut", 0, 0))], 9)

    def test_200000_ticks(self):
        numbers = plain.some_numbers(991, 30)
        loops = [[(number, "plain" if k % 3 else "shy") for k, number in enumerate(numbers[at:at + 10])]
                 for at in (0, 10, 20)]
        houses = [House(number, "soso", mark=0, rows=2) for number in numbers[::3]]
        service = Service(Town(loops, rounds=8, hear=2), houses=houses, joining=True,
                          cards=[read_card(f"{number}: 0 / 1 1 1 / 0 0 0") for number in numbers[:6]])
        begun = time.monotonic()
        timed = [(0, ("join",))]
        for k in range(100):
            timed.append((2 + 1900 * k, ("pull", numbers[k % 30])))
            timed.append((2 + 1900 * k, ("levels", numbers[0], (1, 1))))
        run = play_service(service, timed, 200000)
        self.assertEqual((run.clock, len(run.tapes[2][1])), (200000, 200000))
        self.assertIs(run.rests(), True)
        self.assertGreater(len(run.hearings), 100)
        self.assertLess(time.monotonic() - begun, 60)


if __name__ == "__main__":
    unittest.main()

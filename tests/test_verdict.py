"""[9.11], [9.12], [9.16] and the heading verdict.py."""

import random
import time
import unittest

from tests import plain
from tests.rings import all_faults, reached
from tests.services import PlainRun, levels_for, some_happening, some_service
from tests.shown import FAILING, SAFE, STATEMENTS, TOWN, big_service, shown
from tests.test_orders import bare_card
from wheelchorus.cards import Card
from wheelchorus.errors import BadStatement, TooManyCases, TooManyStandings
from wheelchorus.hiding import hidden
from wheelchorus.house import House, guarded_ring
from wheelchorus.orders import judge_orders
from wheelchorus.readable import Safe, false_reading
from wheelchorus.service import Service
from wheelchorus.service_run import ServiceRun, play_service
from wheelchorus.spoils import spoil_table
from wheelchorus.town import Town
from wheelchorus.verdict import Verdict, events_play, part_of, verdict


def others(wire, number):
    return [box for box in wire if box[0] != number]


def told(found):
    """A verdict without the happenings, whose papers are told by plain values alone."""
    papers = []
    for word, paper in found.papers:
        if word == "false":
            paper = tuple((wire, number, safe.number, safe.papers) for wire, number, safe in paper)
        papers.append((word, paper))
    return found.statement, found.number, found.wire_index, tuple(papers)


def asked_false(service):
    """[9.11] word by word: (number, wire) of the first that fails, or the paper."""
    town = service.town
    paper = []
    for index, wire in enumerate(service.wires):
        for number in town.numbers:
            answer = false_reading(others(wire, number), number, rounds=town.rounds, hear=town.hear,
                                   key=service.cutting or service.joining)
            if not answer.is_safe:
                return number, index
            paper.append((index, number, number, answer.papers))
    return tuple(paper)


def asked_hidden(service):
    town = service.town
    paper = []
    for index, wire in enumerate(service.wires):
        for number, sort in wire:
            rest = others(wire, number)
            hiding = hidden(rest, number, sort, rounds=town.rounds, hear=town.hear)
            if hiding is not None and len(hiding.pulls) <= service.most:
                return number, index
            table = spoil_table(number, rest, rounds=town.rounds) if sort == "plain" else ()
            paper.append((index, number, table))
    return tuple(paper)


def asked_houses(service):
    paper = []
    for house in service.houses:
        for fault in all_faults(house.ring):
            heard = reached(house.ring, [fault])
            if len(heard) < house.need:
                return house.box, None
            paper.append((house.box, fault, heard))
    return tuple(paper)


def asked_crews(service):
    orders = judge_orders(service.room, most_open=service.most_open)
    return orders.table if orders.events is None else (orders.events[-1][1], None)


def asked(service, statement):
    """What a part_of tells, but the happenings."""
    ask = {"false": asked_false, "hidden": asked_hidden, "houses": asked_houses, "crews": asked_crews}[statement]
    answer = ask(service)
    if len(answer) == 2 and isinstance(answer[0], str):
        return (statement, *answer, ())
    return None, None, None, ((statement, answer),)


class VerdictClassTest(unittest.TestCase):
    def test_attributes(self):
        self.assertEqual(Verdict.STATEMENTS, STATEMENTS)
        bare = Verdict(None)
        self.assertEqual((bare.statement, bare.number, bare.wire_index, bare.timed, bare.duration, bare.papers),
                         (None, None, None, (), 0, ()))
        timed = [(0, ("pull", "3")), (1, ("levels", "3", [1]))]
        papers = [("false", ()), ("crews", [1])]
        full = Verdict("hidden", number="3", wire_index=1, timed=timed, duration=9, papers=papers)
        self.assertEqual((full.statement, full.number, full.wire_index, full.duration), ("hidden", "3", 1, 9))
        self.assertEqual((full.timed, full.papers), (tuple(timed), tuple(papers)))
        timed[1][1][2].append(5)
        papers[1][1].append(5)
        timed.clear()
        papers.clear()
        self.assertEqual(full.timed, ((0, ("pull", "3")), (1, ("levels", "3", [1]))))
        self.assertEqual(full.papers, (("false", ()), ("crews", [1])))

    def test_bool(self):
        for statement, holds in ((None, True), ("false", False), ("crews", False)):
            found = Verdict(statement, papers=(("false", ()),))
            self.assertIs(found.is_safe, holds)
            self.assertIs(bool(found), holds)


class PartTest(unittest.TestCase):
    def test_beside_plain_asking(self):
        chance = random.Random(9121)
        counts = {}
        for _ in range(150):
            service = some_service(chance)
            parts = {}
            for statement in STATEMENTS:
                found = part_of(service, statement)
                parts[statement] = found
                self.assertEqual(told(found), asked(service, statement))
                if found.is_safe:
                    self.assertEqual((found.timed, found.duration), ((), 0))
                else:
                    self.assertTrue(shown(service, statement, found.number, found.timed, found.duration))
                counts[statement, found.is_safe] = counts.get((statement, found.is_safe), 0) + 1
            self.check_whole(service, parts)
        for key in [(statement, holds) for statement in STATEMENTS for holds in (True, False)]:
            self.assertGreater(counts.get(key, 0), 15, key)

    def check_whole(self, service, parts):
        """A verdict is the first part that fails, behind the papers of those ahead of it."""
        found = verdict(service)
        papers = ()
        for statement in STATEMENTS:
            one = told(parts[statement])
            if one[0] is not None:
                self.assertEqual(told(found), one[:3] + (papers,))
                self.assertTrue(shown(service, statement, found.number, found.timed, found.duration))
                return
            papers += one[3]
        self.assertEqual(told(found), (None, None, None, papers))
        self.assertEqual((found.timed, found.duration), ((), 0))

    def test_known_services(self):
        self.assertTrue(verdict(SAFE))
        for statement, service in FAILING.items():
            found = verdict(service)
            self.assertIs(found.is_safe, False)
            self.assertEqual(found.statement, statement)
            self.assertEqual([word for word, _ in found.papers], list(STATEMENTS[:STATEMENTS.index(statement)]))
            for other in STATEMENTS:
                self.assertIs(part_of(service, other).is_safe, other != statement)

    def test_kinds(self):
        found = verdict(SAFE)
        self.assertEqual([type(thing) for pair in found.papers for thing in pair], [str, tuple] * 4)
        self.assertEqual([type(entry) for _, paper in found.papers[:3] for entry in paper],
                         [tuple] * (2 * 3 + 3 + 8 + 10))
        self.assertTrue(all(isinstance(safe, Safe) for _, _, safe in found.papers[0][1]))
        self.assertEqual([entry[:2] for entry in found.papers[0][1]],
                         [(wire, number) for wire in (0, 1) for number in TOWN.numbers])
        self.assertEqual([entry[2] for entry in found.papers[1][1]],
                         [spoil_table("24", [("3", "shy")], rounds=2), (), ()])
        self.assertEqual(found.papers[2][1][2], ("3", ("cut", 1), (0, 1)))
        self.assertEqual(found.papers[3][1][0], SAFE.room.start())

    def test_two_statements_at_once(self):
        both = FAILING["hidden"].with_parts(houses=FAILING["houses"].houses, cards=FAILING["crews"].cards)
        self.assertEqual(verdict(both).statement, "hidden")
        self.assertEqual(verdict(both.with_parts(most=0)).statement, "houses")
        self.assertEqual(verdict(both.with_parts(most=0, houses=())).statement, "crews")
        worst = FAILING["false"].with_parts(most=99, houses=[House("1", "s", mark=0, rows=1)],
                                            cards=[Card("1", (), counts=(0, 0, 0), owed=(1, 0, 0))])
        found = verdict(worst)
        self.assertEqual((found.statement, found.number, found.wire_index, found.papers), ("false", "12", 0, ()))
        for statement in STATEMENTS:
            one = part_of(worst, statement)
            self.assertEqual((one.statement, one.papers), (statement, ()))
            self.assertTrue(shown(worst, statement, one.number, one.timed, one.duration))

    def test_no_houses_and_no_cards(self):
        bare = Service(TOWN)
        found = verdict(bare)
        self.assertEqual(found.papers[2:], (("houses", ()), ("crews", (((("in", 0),), ()),))))

    def test_most_0_and_99(self):
        towns = [Town([[("24", "plain"), ("5", "plain")]], rounds=rounds, hear=hear)
                 for rounds, hear in ((1, 1), (8, 1), (2, 2), (8, 2))]
        towns.append(Town([[("24", "plain"), ("5", "shy")]], rounds=1))
        for town in towns:
            self.assertIsNone(part_of(Service(town, most=0), "hidden").statement)
            found = part_of(Service(town, most=99), "hidden")
            self.assertEqual((found.statement, found.number, found.wire_index), ("hidden", "24", 0))
            self.assertTrue(shown(Service(town, most=99), "hidden", "24", found.timed, found.duration))

    def test_pulls_far_below_the_called_one(self):
        for number, other, rounds, at in (("7", "3569", 2, -34), ("1341", "6279", 2, -24), ("4223", "6724", 3, -14)):
            for joining in (False, True):
                loops = [[(number, "plain")], [(other, "shy")]] if joining else [[(number, "plain"), (other, "shy")]]
                service = Service(Town(loops, rounds=rounds, hear=2), most=1, joining=joining)
                found = part_of(service, "hidden")
                pulls = [(tick, happening[1]) for tick, happening in found.timed if happening[0] == "pull"]
                self.assertEqual([name for _, name in pulls], [other, number])
                self.assertEqual(pulls[0][0] - pulls[1][0], at)
                self.assertTrue(shown(service, "hidden", number, found.timed, found.duration))

    def test_the_least_most_with_which_it_fails(self):
        chance = random.Random(9122)
        many = 0
        for _ in range(60):
            service = some_service(chance, houses=(), cards=(), most=99)
            found = part_of(service, "hidden")
            while found.statement is not None:
                pulls = [happening[1] for _, happening in found.timed if happening[0] == "pull"]
                service = service.with_parts(most=len(pulls) - 2)
                found = part_of(service, "hidden")
                many += 1
                if found.statement is not None:
                    self.assertTrue(shown(service, "hidden", found.number, found.timed, found.duration))
        self.assertGreater(many, 20)

    def test_joining_with_and_without_cutting(self):
        town = Town([[("2", "plain"), ("5", "shy")], [("4", "plain")], [("24", "plain")]], rounds=1)
        found = verdict(Service(town, most=99))
        self.assertEqual((found.statement, found.number, found.wire_index), ("hidden", "2", 0))
        self.assertTrue(verdict(Service(town)))
        for cutting, joining, number, wire in ((True, False, "2", 1), (False, True, "2", 0), (True, True, "2", 0)):
            service = Service(town, cutting=cutting, joining=joining, most=1)
            found = verdict(service)
            self.assertEqual((found.statement, found.number, found.wire_index), ("false", number, wire))
            self.assertTrue(shown(service, "false", number, found.timed, found.duration))
            words = [happening[0] for _, happening in found.timed]
            self.assertEqual(("join" in words, "cut" in words), (joining, not joining))
            hiding = part_of(service, "hidden")
            self.assertEqual((hiding.number, hiding.wire_index), ("2", 0))
            self.assertEqual(hiding.timed[0][1] == ("join",), joining)
            self.assertTrue(shown(service, "hidden", "2", hiding.timed, hiding.duration))
        # Without the key 24 is heard only if its two halves come onto one wire.
        quiet = Town([[("2", "plain")], [("4", "plain")], [("24", "shy"), ("9951", "shy")]], rounds=1)
        self.assertTrue(part_of(Service(quiet), "false"))
        answer = false_reading([("2", "plain"), ("4", "plain")], "24", rounds=1)
        self.assertFalse(answer.is_safe)

    def test_the_key_alone_makes_a_number_heard(self):
        """A round whose beginning the key hides is read as a shorter number."""
        town = Town([[("12", "plain"), ("2", "shy")]], rounds=1)
        self.assertTrue(part_of(Service(town), "false"))
        service = Service(town, cutting=True)
        found = part_of(service, "false")
        self.assertEqual((found.statement, found.number), ("false", "2"))
        self.assertIn("cut", [happening[0] for _, happening in found.timed])
        self.assertTrue(shown(service, "false", "2", found.timed, found.duration))

    def test_houses_of_need_above_1(self):
        for need, rows, mark in ((2, 3, 0), (3, 8, -10 ** 39), (3, 1, 10 ** 39)):
            service = Service(TOWN, houses=[SAFE.houses[0], House("24", "sosos", mark=mark, rows=rows, need=need)])
            found = part_of(service, "houses")
            self.assertEqual(found.statement, "houses" if need == 3 else None)
            if need == 3:
                self.assertEqual((found.number, found.wire_index, found.duration), ("24", None, rows))
                self.assertTrue(shown(service, "houses", "24", found.timed, found.duration))

    def test_calls_that_crews_wait_for(self):
        """The last event needs calls, mores and backs ahead of it; plain and shy boxes send all their rounds."""
        chance = random.Random(9123)
        lengths = set()
        for rounds, hear in ((1, 1), (8, 1), (2, 2), (8, 2)):
            town = Town([[("24", "plain"), ("9951", "shy")], [("3", "shy"), ("5", "plain")]], rounds=rounds, hear=hear)
            for _ in range(60):
                cards = [Card(number, chance.sample(range(3), 2), counts=[chance.choice((0, 1)) for _ in range(3)],
                              owed=(0, 0, chance.choice((0, 1, 1, 2)))) for number in chance.sample(town.numbers, 3)]
                service = Service(town, stations=(0, 0, 1), cards=cards, joining=chance.random() < 0.3,
                                  most_open=chance.randint(1, 3))
                found = part_of(service, "crews")
                if not found:
                    events = judge_orders(service.room, most_open=service.most_open).events
                    lengths.add(len(events))
                    self.assertEqual(found.number, events[-1][1])
                    self.assertTrue(shown(service, "crews", found.number, found.timed, found.duration))
        self.assertTrue({3, 4, 5} <= lengths)

    def test_events_one_by_one(self):
        """Any allowed row of events comes of its happenings, also where numbers are closed and called again."""
        chance = random.Random(9124)
        again = 0
        for rounds, hear in ((1, 1), (3, 1), (2, 2), (8, 2)):
            town = Town([[("24", "plain"), ("9951", "shy")], [("3", "shy"), ("5", "plain")]], rounds=rounds, hear=hear)
            for _ in range(6):
                cards = [Card(number, (0, 1), counts=(1, 1, 1)) for number in chance.sample(town.numbers, 2)]
                service = Service(town, stations=(0, 0, 1), cards=cards, most_open=2)
                model = PlainRun(service).crews
                events = []
                for _ in range(12):
                    events.append(chance.choice(model.allowed(2)))
                    model.do(events[-1])
                timed, ticks = events_play(town, events)
                run = play_service(service, timed, ticks)
                self.assertEqual([(row[0], row[2]) for row in run if row[0] != "pull"], events)
                self.assertTrue(all(row[3] for row in run if row[0] == "pull"))
                self.assertTrue(run.rests())
                calls = [event for event in events if event[0] == "call"]
                again += len(calls) > len(set(calls))
        self.assertGreater(again, 10)

    def test_bad_statement(self):
        for thing in plain.ANY_OBJECTS + plain.WHOLE_NUMBERS + ("False", "crew", ("false",), ["false"], STATEMENTS):
            with self.assertRaises(BadStatement) as caught:
                part_of(SAFE, thing)
            self.assertIs(caught.exception.statement, thing)

    def test_too_many(self):
        service = big_service(1, every=2, rounds=8, hear=1, joining=True)
        with self.assertRaises(TooManyCases) as caught:
            part_of(service, "false")
        self.assertIn(caught.exception.number, service.town.numbers)
        with self.assertRaises(TooManyCases):
            verdict(service)
        town = Town([[(number, "shy") for number in "123456"]], rounds=1)
        crews = Service(town, cards=[bare_card(number) for number in "123456"], most_open=6)
        with self.assertRaises(TooManyStandings) as caught:
            part_of(crews, "crews")
        self.assertEqual(caught.exception.count, 3000)
        with self.assertRaises(TooManyStandings):
            verdict(crews)
        # What fails ahead of it is told.
        silent = crews.with_parts(houses=[House("1", "s", mark=0, rows=1)])
        self.assertEqual(verdict(silent).statement, "houses")

    def test_thirty_boxes(self):
        begun = time.monotonic()
        for seed in (1, 2):
            for more in ({}, {"joining": True, "rounds": 1, "hear": 1}, {"rounds": 8, "most": 99}):
                service = big_service(seed, **more)
                try:
                    found = verdict(service)
                except TooManyCases:
                    continue
                if not found:
                    self.assertTrue(shown(service, found.statement, found.number, found.timed, found.duration))
        self.assertLess(time.monotonic() - begun, 40)


class FollowsTest(unittest.TestCase):
    """[9.16], on services that are safe in one statement or in all."""

    def played(self, chance, service, ticks, calm, pace=0.15):
        run, model = ServiceRun(service), PlainRun(service)
        for _ in range(ticks):
            while chance.random() < pace:
                happening = some_happening(chance, model)
                if happening[0] in ("cut", "mend", "join", "part") and (calm or chance.random() < 0.6):
                    continue
                model.do(happening)
                run.do(happening)
            for house in service.houses:
                if chance.random() < 0.3:
                    happening = ("levels", house.box, levels_for(chance, house))
                    model.do(happening)
                    run.do(happening)
            model.tick()
            run.tick()
        return run

    def check_heard(self, run):
        for tick, number in run.hearings:
            if number in run.service.town.numbers:
                self.assertTrue(any(at <= tick and name == number for at, name in run.pullings))

    def check_short(self, run):
        count = 0
        for row in run:
            count += {"call": 1, "back": -1}.get(row[0], 0)
            if count > run.service.most_open:
                return False
            if row[0] in ("call", "more"):
                self.assertEqual(row[6], 0)
        return True

    def safe_services(self, chance, statement, many, **more):
        found = []
        while len(found) < many:
            service = some_service(chance, **more)
            if part_of(service, statement):
                found.append(service)
        return found

    def test_false(self):
        chance = random.Random(9161)
        heard = 0
        for service in self.safe_services(chance, "false", 40, houses=(), cards=()):
            run = self.played(chance, service, 150, False)
            self.check_heard(run)
            heard += len(run.hearings)
        self.assertGreater(heard, 200)

    def test_hidden(self):
        chance = random.Random(9162)
        heard = 0
        for service in self.safe_services(chance, "hidden", 120, houses=(), cards=()):
            number = chance.choice(service.town.numbers)
            names = [name for name in service.town.numbers if name != number]
            at = chance.randint(0, 40)
            pulls = [(chance.randint(0, 60), chance.choice(names)) for _ in range(service.most) if names][:8]
            run = ServiceRun(service)
            for tick in range(100):
                for _, name in [pull for pull in pulls if pull[0] == tick]:
                    run.pull(name)
                if tick == at:
                    run.pull(number)
                run.tick()
            while not run.rests():
                run.tick()
            others_taken = [name for _, name in run.pullings if name != number]
            if len(others_taken) <= service.most:
                self.assertIn(number, [name for _, name in run.hearings])
                heard += len(others_taken) > 0
        self.assertGreater(heard, 20)

    def test_houses(self):
        chance = random.Random(9163)
        for _ in range(80):
            need = chance.randint(1, 3)
            text = guarded_ring(need + chance.randint(1, 2), need)
            house = House("3", text, mark=chance.choice((0, -7)), rows=chance.randint(1, 4), need=need)
            service = Service(TOWN, houses=[house], joining=True)
            self.assertTrue(part_of(service, "houses"))
            run = ServiceRun(service)
            for _ in range(chance.randint(0, 6)):
                run.levels("3", levels_for(chance, house))
                run.tick()
            if run.clock:
                # At this tick all its levels are at the mark.
                run.tick()
            fault = chance.choice((None,) + house.layout.all_faults())
            if fault is not None:
                run.fault("3", fault)
            last = run.clock + house.rows - 1
            for _ in range(house.rows):
                run.levels("3", (house.mark + 1,) * house.seekers)
                run.tick()
            self.assertIn(("warning", last, "3"), [row[:3] for row in run if row[0] == "warning"])

    def test_crews(self):
        chance = random.Random(9164)
        whole = rows = 0
        for service in self.safe_services(chance, "crews", 80, joining=False, cutting=False):
            run = self.played(chance, service, 120, True, 0.08)
            whole += self.check_short(run)
            rows += len([row for row in run if row[0] in ("call", "more")])
        self.assertGreater(whole, 20)
        self.assertGreater(rows, 40)

    def test_all(self):
        chance = random.Random(9165)
        found = [SAFE, SAFE.with_parts(most_open=1, joining=False)]
        while len(found) < 25:
            service = some_service(chance, most=0)
            if verdict(service).is_safe:
                found.append(service)
        for service in found:
            run = self.played(chance, service, 120, False)
            self.check_heard(run)
            self.check_short(run)


if __name__ == "__main__":
    unittest.main()

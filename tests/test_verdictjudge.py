"""[9.13], [9.14] and the heading verdictjudge.py."""

import random
import time
import unittest

from tests import plain
from tests.services import PlainRun, levels_for, some_happening, some_service
from tests.shown import FAILING, SAFE, STATEMENTS, TOWN, big_service, shown
from wheelchorus.cards import read_card
from wheelchorus.coverjudge import safe_fault
from wheelchorus.errors import BadHappening, BadStatement, BadTimed, NoBox, NotAllowed, WheelError
from wheelchorus.house import House
from wheelchorus.readable import Safe
from wheelchorus.service import Service
from wheelchorus.service_run import ServiceRun
from wheelchorus.town import Town
from wheelchorus.trees import Tree
from wheelchorus.verdict import Verdict, part_of, verdict
from wheelchorus.verdictjudge import shows, verdict_fault


def pull(tick, number):
    return tick, ("pull", number)


class ShowsTest(unittest.TestCase):
    def check(self, holds, service, statement, number, timed, ticks):
        self.assertIs(shown(service, statement, number, timed, ticks), holds)
        for things in (list(timed), tuple(timed)):
            self.assertIs(shows(service, statement, number, things, ticks), holds)

    def test_false(self):
        service = Service(Town([[("1", "plain"), ("2", "plain")], [("12", "plain")]], rounds=1))
        timed = [pull(0, "1"), pull(4, "2")]
        self.check(True, service, "false", "12", timed, 12)
        self.check(False, service, "false", "12", timed, 11)
        self.check(False, service, "false", "12", timed, 13)
        self.check(False, service, "false", "1", timed, 12)
        self.check(False, service, "false", "12", [pull(0, "1"), pull(5, "2")], 13)
        self.check(False, service, "false", "12", [pull(0, "1"), pull(4, "2"), pull(12, "12")], 12)
        self.check(False, service, "false", "12", [pull(0, "12")], 12)
        self.check(False, service, "false", "12", (), 0)
        # 21 is no number of the town, and None none at all.
        self.check(False, service, "false", "21", [pull(0, "2"), pull(6, "1")], 12)
        self.check(False, service, "false", None, timed, 12)

    def test_a_warning_is_a_pull(self):
        town = Town([[("1", "plain"), ("2", "plain")], [("12", "plain")]], rounds=1)
        service = Service(town, houses=[House("12", "s", mark=0, rows=1)])
        timed = [pull(0, "1"), pull(4, "2")]
        self.check(True, service, "false", "12", timed + [(9, ("levels", "12", (0,)))], 12)
        self.check(False, service, "false", "12", timed + [(9, ("levels", "12", (1,)))], 12)

    def test_hidden(self):
        town = Town([[("12", "plain"), ("3", "plain"), ("1", "plain")], [("5", "shy")]], rounds=1)
        service = Service(town, most=1, cutting=True)
        good = [pull(0, "12"), pull(11, "3")]
        self.check(True, service, "hidden", "12", good, 40)
        self.check(False, service, "hidden", "12", good, 20)
        self.check(True, service, "hidden", "12", good, 21)
        # Each of the two hides the other; the third box was not pulled.
        self.check(True, service, "hidden", "3", good, 40)
        self.check(False, service, "hidden", "1", good, 40)
        self.check(False, service, "hidden", "9", good, 40)
        self.check(False, service, "hidden", "12", [pull(0, "12"), pull(12, "3")], 40)
        self.check(False, service, "hidden", "12", [pull(11, "3")], 40)
        self.check(False, service, "hidden", "12", [], 40)
        # The second pull of 12 is not taken, a later one is its second; a second one of 3 is one too many.
        self.check(False, service, "hidden", "12", good + [pull(11, "12")], 40)
        self.check(False, service, "hidden", "12", good + [pull(20, "12")], 60)
        self.check(False, service, "hidden", "12", good + [pull(12, "3")], 40)
        self.check(False, service, "hidden", "12", good + [pull(30, "3")], 60)
        self.check(True, service.with_parts(most=2), "hidden", "12", good + [pull(30, "3")], 60)
        self.check(False, service.with_parts(most=2), "hidden", "12", good + [pull(12, "3")], 60)
        self.check(False, service.with_parts(most=0), "hidden", "12", good, 40)
        # Pulls alone.
        self.check(False, service, "hidden", "12", good + [(40, ("cut", 0, 0))], 60)
        house = service.with_parts(houses=[House("5", "s", mark=0, rows=1)])
        self.check(False, house, "hidden", "12", good + [(15, ("levels", "5", (0,)))], 60)
        # A joining of a service without joining is not allowed; its own errors come through.
        with self.assertRaises(NotAllowed):
            shows(service, "hidden", "12", [(0, ("join",))] + good, 40)

    def test_hidden_with_joining(self):
        town = Town([[("12", "plain")], [("3", "plain")]], rounds=1)
        service = Service(town, most=1, joining=True)
        join = (0, ("join",))
        self.check(True, service, "hidden", "12", [join, pull(2, "12"), pull(13, "3")], 40)
        self.check(False, service, "hidden", "12", [join, pull(1, "12"), pull(12, "3")], 40)
        self.check(False, service, "hidden", "12", [join, pull(0, "12"), pull(11, "3")], 40)
        self.check(False, service, "hidden", "12", [pull(2, "12"), pull(13, "3")], 40)
        self.check(False, service, "hidden", "12", [(1, ("join",)), pull(4, "12"), pull(15, "3")], 40)
        self.check(False, service, "hidden", "12", [join, (1, ("part",)), pull(4, "12"), pull(15, "3")], 40)
        self.check(False, service, "hidden", "12", [pull(0, "12"), join, pull(11, "3")], 40)
        self.check(False, service, "hidden", "12", [join], 9)
        alone = Service(Town([[("12", "plain"), ("3", "plain")]], rounds=1), most=1, joining=True)
        self.check(True, alone, "hidden", "12", [pull(0, "12"), pull(11, "3")], 40)

    def test_houses(self):
        service = FAILING["houses"]
        fault = (0, ("fault", "5", ("short", 0)))
        rows = [(tick, ("levels", "5", (0, 0))) for tick in range(3)]
        self.check(True, service, "houses", "5", [fault] + rows, 3)
        self.check(True, service, "houses", "5", [fault] + [(0, ("levels", "5", [9, 9]))] + rows[1:], 3)
        for ticks in (2, 4):
            things = [entry for entry in [fault] + rows if entry[0] <= ticks]
            self.check(False, service, "houses", "5", things, ticks)
        self.check(False, service, "houses", "3", [fault] + rows, 3)
        self.check(False, service, "houses", "24", [fault] + rows, 3)
        self.check(False, service, "houses", "24", [], 3)
        self.check(False, service, "houses", "5", [], 3)
        self.check(False, service, "houses", "5", rows, 3)
        self.check(False, service, "houses", "5", [fault] + rows[:2], 3)
        self.check(False, service, "houses", "5", [fault] + rows[1:], 3)
        self.check(False, service, "houses", "5", [fault] + rows[:1] + rows, 3)
        self.check(False, service, "houses", "5", [fault, rows[0], rows[0], rows[2]], 3)
        self.check(False, service, "houses", "5", [fault] + rows + [(3, ("levels", "5", (0, 0)))], 3)
        self.check(False, service, "houses", "5", [fault, fault] + rows, 3)
        self.check(False, service, "houses", "5", [fault] + rows[:2] + [(2, ("fault", "5", ("cut", 0))), rows[2]], 3)
        self.check(False, service, "houses", "5", [(0, rows[0][1]), fault] + rows[1:], 3)
        self.check(False, service, "houses", "5", [(1, fault[1])] + rows[1:], 3)
        # One level at the mark, levels of another house, pulls, a fault that silences nothing.
        self.check(False, service, "houses", "5", [fault] + rows[:2] + [(2, ("levels", "5", (0, -1)))], 3)
        self.check(False, service, "houses", "5", [fault] + rows[:2] + [(2, ("levels", "3", (9, 9)))], 3)
        self.check(False, service, "houses", "5", [fault] + rows[:2] + [pull(2, "24")], 3)
        self.check(False, service, "houses", "5", [(0, ("fault", "5", ("cut", 1)))] + rows, 3)
        self.check(False, service, "houses", "5", [(0, ("fault", "3", ("short", 0)))] + rows, 3)
        # The first may be a heal only behind a fault.
        with self.assertRaises(WheelError):
            shows(service, "houses", "5", [(0, ("heal", "5", ("short", 0)))] + rows, 3)

    def test_crews(self):
        service = FAILING["crews"]
        good = [pull(0, "24"), (60, ("more", "24")), (60, ("more", "24"))]
        self.check(True, service, "crews", "24", good, 60)
        self.check(True, service, "crews", "24", good, 90)
        self.check(False, service, "crews", "5", good, 60)
        self.check(False, service, "crews", "24", good[:2], 60)
        self.check(False, service, "crews", "24", good + [(60, ("back", "24"))], 60)
        self.check(False, service, "crews", "24", good + [pull(70, "24")], 70)
        self.check(False, service, "crews", "24", good + [pull(70, "24")], 200)
        self.check(False, service, "crews", "24", [(0, ("cut", 1, 1))] + good, 60)
        self.check(False, service, "crews", "24", [(0, ("fault", "3", ("cut", 0)))] + good, 60)
        self.check(False, service, "crews", "24", [(0, ("levels", "3", (0, 0)))] + good, 60)
        self.check(False, service, "crews", "24", [], 0)
        # Not more than most_open numbers at once, behind any row; closing one makes room.
        both = [pull(0, "5")] + good
        self.check(False, service, "crews", "24", both, 90)
        self.check(True, service.with_parts(most_open=2), "crews", "24", both, 90)
        self.check(False, service, "crews", "24", [pull(0, "5"), pull(60, "24"), (110, ("back", "5"))]
                   + [(110, ("more", "24"))] * 2, 110)
        self.check(True, service, "crews", "24", [pull(0, "5"), (59, ("back", "5")), pull(60, "24")]
                   + [(110, ("more", "24"))] * 2, 110)

        # Opened, closed, and opened again beside another one.
        again = [pull(0, "5"), (59, ("back", "5")), pull(60, "24"), pull(110, "5")] + [(170, ("more", "24"))] * 2
        self.check(False, service, "crews", "24", again, 170)
        self.check(True, service.with_parts(most_open=2), "crews", "24", again, 170)

    def test_crews_of_a_number_that_nobody_pulled(self):
        town = Town([[("1", "plain"), ("2", "plain")], [("12", "plain")]], rounds=1)
        service = Service(town, cards=[read_card("12: - / 0 0 0 / 1 0 0")])
        self.check(False, service, "crews", "12", [pull(0, "1"), pull(4, "2")], 12)
        self.check(False, service, "crews", "12", [pull(0, "1"), pull(4, "2"), pull(12, "12")], 12)
        self.check(True, service, "crews", "12", [pull(0, "12")], 12)
        # 12 was pulled when it was heard, at the very tick ahead of it.
        self.check(True, service, "crews", "12", [pull(0, "1"), pull(4, "2"), pull(11, "12")], 12)
        late = service.with_parts(cards=[read_card("12: - / 0 0 0 / 0 1 0")])
        pulls = [pull(0, "1"), pull(4, "2")]
        self.check(False, late, "crews", "12", pulls + [pull(12, "12"), (12, ("more", "12"))], 12)
        self.check(True, late, "crews", "12", pulls + [pull(11, "12"), (12, ("more", "12"))], 12)
        # 21 is heard and was not pulled, although it has no card.
        self.check(False, service, "crews", "12", [pull(0, "2"), pull(0, "12"), pull(6, "1")], 12)

    def test_errors(self):
        for thing in plain.ANY_OBJECTS + ("False", "crew", ("false",), 1):
            with self.assertRaises(BadStatement) as caught:
                shows(SAFE, thing, "24", [None], 3)
            self.assertIs(caught.exception.statement, thing)
        for statement in STATEMENTS:
            for timed, error in (([None], BadTimed), ([(4, None)], BadTimed), ([(0, None)], BadHappening),
                                 ([pull(0, "9")], NoBox), ([(0, ("join",))], NotAllowed)):
                with self.assertRaises(error):
                    shows(SAFE, statement, "24", timed, 3)

    def test_beside_own_reading(self):
        """What shows something, changed a little in all ways; and what does not show anything."""
        chance = random.Random(9131)
        counts = {}
        for _ in range(130):
            service = some_service(chance)
            for statement in STATEMENTS:
                found = part_of(service, statement)
                timed, ticks = list(found.timed), found.duration
                if found:
                    timed, ticks = self.some_timed(chance, service)
                for _ in range(3):
                    number = chance.choice((found.number, found.number, chance.choice(service.town.numbers)))
                    self.check_alike(counts, service, statement, number, timed, ticks)
                    timed, ticks = self.changed(chance, service, timed, ticks)
        for statement in STATEMENTS:
            for holds in (True, False):
                self.assertGreater(counts.get((statement, holds), 0), 20, (statement, holds))

    def check_alike(self, counts, service, statement, number, timed, ticks):
        try:
            expected = shown(service, statement, number, timed, ticks)
        except WheelError as error:
            with self.assertRaises(type(error)):
                shows(service, statement, number, timed, ticks)
            return
        self.assertIs(shows(service, statement, number, timed, ticks), expected)
        counts[statement, expected] = counts.get((statement, expected), 0) + 1

    def some_timed(self, chance, service):
        run, model = ServiceRun(service), PlainRun(service)
        for _ in range(chance.randint(1, 60)):
            if chance.random() < 0.2:
                happening = some_happening(chance, model)
                model.do(happening)
                run.do(happening)
            run.tick()
            model.tick()
        return list(run.log), run.clock

    def changed(self, chance, service, timed, ticks):
        timed = list(timed)
        way = chance.randrange(6)
        at = chance.randrange(len(timed)) if timed else 0
        if way == 0 and timed:
            timed.pop(at)
        elif way == 1 and timed:
            tick, happening = timed[at]
            timed[at] = (max(0, tick + chance.choice((-1, 1))), happening)
        elif way == 2:
            ticks += chance.choice((-1, 1, 30))
        elif way == 3 and timed:
            timed.insert(at, timed[at])
        elif way == 4:
            tick = timed[at][0] if timed else 0
            timed.insert(at, (tick, ("pull", chance.choice(service.town.numbers))))
        elif way == 5 and service.houses:
            house = chance.choice(service.houses)
            timed.insert(at, (timed[at][0] if timed else 0, ("levels", house.box, levels_for(chance, house))))
        return timed, max(0, ticks)


def with_paper(found, word, paper):
    """The verdict with another paper for this statement."""
    papers = [(name, paper if name == word else kept) for name, kept in found.papers]
    return remade(found, papers=papers)


def remade(found, **more):
    parts = {"statement": found.statement, "number": found.number, "wire_index": found.wire_index,
             "timed": found.timed, "duration": found.duration, "papers": found.papers}
    parts.update(more)
    return Verdict(parts.pop("statement"), **parts)


class VerdictFaultTest(unittest.TestCase):
    def check(self, fault, found, service=SAFE, statements=STATEMENTS):
        self.assertEqual(verdict_fault(service, found, statements=statements), fault)
        if statements == STATEMENTS:
            self.assertEqual(verdict_fault(service, found), fault)

    def test_right_verdicts(self):
        chance = random.Random(9141)
        for _ in range(60):
            service = some_service(chance)
            self.check(None, verdict(service), service)
            for statement in STATEMENTS:
                found = part_of(service, statement)
                self.check(None, found, service, (statement,))
                # What shows it and what it is called do not matter.
                self.check(None, remade(found, wire_index=7), service, (statement,))

    def test_of_another_service(self):
        """A verdict on one service, judged for others: it is right if it is theirs, too."""
        chance = random.Random(9142)
        words = set()
        for _ in range(250):
            service = some_service(chance, most=chance.choice((0, 0, 1)))
            needs = [house.with_rules(need=house.seekers) for house in service.houses]
            other = service.with_parts(**chance.choice((
                {"most": 99}, {"most": 0}, {"most_open": 6}, {"most_open": 1}, {"cutting": not service.cutting},
                {"houses": needs}, {"houses": service.houses[:1]})))
            found = verdict(service)
            fault = verdict_fault(other, found)
            if fault is None:
                self.assertEqual(verdict(other).statement is None, found.statement is None)
            else:
                words.add(fault[0])
        self.assertTrue({"false", "hidden", "crews", "timed"} <= words, words)

    def test_statement(self):
        for statement in ("False", "", "true", "all"):
            self.check(("statement",), Verdict(statement, papers=[("crews", None)]))
        for found in (Verdict("hidden"), Verdict("houses", papers=[("false", ()), ("hidden", ())])):
            self.check(("statement",), found, statements=("false", "crews"))
        self.check(("statement",), Verdict("false"), statements=("hidden",))

    def test_papers(self):
        good = verdict(SAFE).papers
        for papers in ((), good[:3], good[1:], good + good[3:], good[::-1], (good[1], good[0]) + good[2:],
                       (("False", good[0][1]),) + good[1:], good[:1] * 4):
            self.check(("papers",), Verdict(None, papers=papers))
        for index, statement in enumerate(STATEMENTS):
            service = FAILING[statement]
            found = verdict(service)
            self.check(None, found, service)
            for papers in (found.papers + good[index:index + 1], good):
                self.check(("papers",), remade(found, papers=papers), service)
            if index:
                self.check(("papers",), remade(found, papers=found.papers[1:]), service)
                self.check(("papers",), remade(found, papers=()), service)
            # Of one statement alone there is none.
            self.check(None, remade(found, papers=()), service, (statement,))
            self.check(("papers",), remade(found, papers=good[index:index + 1]), service, (statement,))
        self.check(None, Verdict(None, papers=(good[0], good[3])), statements=("false", "crews"))
        self.check(("papers",), Verdict(None, papers=(good[0], good[3])), statements=("false", "hidden", "crews"))
        self.check(("papers",), Verdict(None, papers=(good[3], good[0])), statements=("false", "crews"))

    def test_entries(self):
        found = verdict(SAFE)
        for word, paper in found.papers[:3]:
            size = len(paper)
            for index in range(size):
                less = paper[:index] + paper[index + 1:]
                self.check((word, index, None), with_paper(found, word, less))
                double = paper[:index] + paper[index:index + 1] + paper[index:]
                self.check((word, index + 1, None), with_paper(found, word, double))
                first, second, third = paper[index]
                for entry in ((second, first, third), ("9", second, third), (first, "9", third), (None, second, third)):
                    changed = paper[:index] + (entry,) + paper[index + 1:]
                    self.check((word, index, None), with_paper(found, word, changed))
            self.check((word, size, None), with_paper(found, word, paper + ((0, "9", ()),)))
            self.check((word, 0, None), with_paper(found, word, ()))

    def test_papers_in_their_order(self):
        found = verdict(SAFE)
        wrong = {word: with_paper(found, word, ()).papers[index] for index, (word, _) in enumerate(found.papers)}
        for at, word in enumerate(STATEMENTS):
            papers = found.papers[:at] + tuple(wrong[name] for name in STATEMENTS[at:])
            fault = ("crews", None, ("start",)) if word == "crews" else (word, 0, None)
            self.check(fault, Verdict(None, papers=papers))
        # A paper comes ahead of what shows the statement.
        failed = verdict(FAILING["crews"])
        papers = failed.papers[:2] + (("houses", ()),)
        self.check(("houses", 0, None), remade(failed, papers=papers, timed=()), FAILING["crews"])

    def test_false_papers(self):
        found = verdict(SAFE)
        paper = found.papers[0][1]
        for index, (wire, number, safe) in enumerate(paper):
            rest = [box for box in SAFE.wires[wire] if box[0] != number]
            for other in (Safe(number, ()), Safe(number, safe.papers[::-1]), Safe(number, safe.papers[:1]),
                          Safe(number, [entry[:3] + (Tree(1),) for entry in safe.papers])):
                fault = safe_fault(rest, number, other, rounds=2, hear=2, key=True)
                self.assertIsNotNone(fault)
                changed = paper[:index] + ((wire, number, other),) + paper[index + 1:]
                self.check(("false", index, fault), with_paper(found, "false", changed))
            # The number that stands in the Safe is not looked at.
            changed = paper[:index] + ((wire, number, Safe("9", safe.papers)),) + paper[index + 1:]
            self.check(None, with_paper(found, "false", changed))
        # Papers for a service without the key have fewer cases.
        quiet = verdict(SAFE.with_parts(cutting=False))
        self.check(("false", 0, ("papers",)), quiet)
        self.check(("false", 0, ("papers",)), found, SAFE.with_parts(cutting=False))

    def test_hidden_papers(self):
        found = verdict(SAFE)
        paper = found.papers[1][1]
        for index, (wire, number, table) in enumerate(paper):
            wrong = [(("24", "plain", 1, 0),), None, [], list(table), table + (("9", "shy", 1, 0),)]
            for other in wrong + ([(), [list(table[0])]] if table else []):
                changed = paper[:index] + ((wire, number, other),) + paper[index + 1:]
                self.check(("hidden", index, "table"), with_paper(found, "hidden", changed))
        # 24 is hidden by one pull of 3, and 3 by one pull of 24.
        self.check(("hidden", 0, 1), found, SAFE.with_parts(most=1))
        self.check(("hidden", 0, 1), found, SAFE.with_parts(most=99))
        spoilt = with_paper(found, "hidden", paper[:1] + ((0, "3", None),) + paper[2:])
        self.check(("hidden", 1, "table"), spoilt)
        self.check(("hidden", 0, 1), spoilt, SAFE.with_parts(most=1))
        town = Town([[("12", "shy"), ("3", "plain")]], rounds=4, hear=2)
        service = Service(town, most=2)
        found = part_of(Service(town), "hidden")
        plain_first = Service(Town([[("12", "shy"), ("3", "plain")]], rounds=4, hear=2), most=3)
        self.check(("hidden", 0, 3), found, plain_first, ("hidden",))
        self.assertNotEqual(verdict_fault(service, found, statements=("hidden",)), ("hidden", 0, 3))

    def test_houses_papers(self):
        found = verdict(SAFE)
        paper = found.papers[2][1]
        for index, (box, fault, heard) in enumerate(paper):
            for other in ((), list(heard), None, heard + (9,), heard[::-1] if len(heard) > 1 else (1, 0)):
                changed = paper[:index] + ((box, fault, other),) + paper[index + 1:]
                self.check(("houses", index, heard), with_paper(found, "houses", changed))
        houses = [House("3", "sos", mark=5, rows=2, need=2), SAFE.houses[1]]
        # The papers are right, but fewer than need are heard; this is told of the first such fault.
        service = SAFE.with_parts(houses=houses)
        silent = [index for index, entry in enumerate(paper) if len(entry[2]) < 2 and entry[0] == "3"]
        self.check(("houses", silent[0], paper[silent[0]][2]), found, service)

    def test_crews_papers(self):
        found = verdict(SAFE)
        table = found.papers[3][1]
        for paper, fault in (((), ("start",)), (table[1:], ("start",)), ((None,) + table, ("standing", 0)),
                             (table[:1], ("open", 0, ("call", "24"))), (table + ([],), ("standing", len(table)))):
            self.check(("crews", None, fault), with_paper(found, "crews", paper))
        self.check(None, with_paper(found, "crews", table[::-1]))
        event = FAILING["crews"].with_parts(cards=[read_card("24: 0 2 / 1 1 0 / 3 1 1"), SAFE.cards[1]])
        self.check(("crews", None, ("short", 0, ("call", "24"))), found, event)

    def test_timed(self):
        for statement, service in FAILING.items():
            found = verdict(service)
            self.check(None, found, service)
            for more in ({"timed": ()}, {"timed": found.timed[:-1]}, {"timed": found.timed[1:]}, {"number": "9"},
                         {"number": None}, {"duration": 0}, {"timed": ((0, ("pull", "9")),)},
                         {"timed": ((0, None),)}, {"timed": (None,)}, {"timed": ((0, ("join",)),) + found.timed},
                         {"timed": found.timed + ((0, ("pull", "5")),)}):
                self.check(("timed",), remade(found, **more), service)
            # That what is shown is another statement does not help.
            for other in STATEMENTS:
                if other != statement:
                    self.check(("timed",), Verdict(other, number=found.number, timed=found.timed,
                                                   duration=found.duration), service, (other,))

    def test_thirty_boxes(self):
        begun = time.monotonic()
        service = big_service(3, stations=(0, 1), most=99)
        found = verdict(service)
        self.check(None, found, service)
        whole = big_service(3)
        self.check(None, verdict(whole), whole)
        self.assertLess(time.monotonic() - begun, 30)


if __name__ == "__main__":
    unittest.main()

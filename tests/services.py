"""Services by chance, and a plain second reckoning of their runs."""

from tests import plain
from tests.crews import PlainRoom, some_card
from tests.rings import PlainPanel, all_faults, some_ring
from wheelchorus.house import House
from wheelchorus.service import Service
from wheelchorus.town import Town

TINY = tuple(number for number in plain.ALL_NUMBERS if len(plain.row(number)) <= 16)


def some_town(chance, most_boxes=3, most_rounds=3):
    many = [chance.randint(1, most_boxes) for _ in range(chance.randint(1, 3))]
    numbers = chance.sample(TINY, sum(many))
    loops = [[(numbers.pop(), chance.choice(("plain", "shy"))) for _ in range(size)] for size in many]
    rounds = chance.randint(1, most_rounds)
    return Town(loops, rounds=rounds, hear=chance.randint(1, min(2, rounds)))


def some_house(chance, box):
    text = some_ring(chance, chance.choice((2, 4, 10)))
    return House(box, text, mark=chance.choice((0, 5, -3)), rows=chance.choice((1, 2, 3)),
                 need=chance.choice((1, text.count("s"))))


def some_service(chance, **more):
    town = some_town(chance)
    boxes = chance.sample(town.numbers, chance.randint(0, min(2, len(town.numbers))))
    stations = [chance.choice((0, 0, 1, 2)) for _ in range(chance.randint(1, 6))]
    numbers = chance.sample(town.numbers, chance.randint(0, min(3, len(town.numbers))))
    parts = {
        "houses": [some_house(chance, box) for box in boxes], "stations": stations,
        "cards": [some_card(chance, number, stations) for number in numbers],
        "cutting": chance.random() < 0.5, "joining": chance.random() < 0.5,
        "most": chance.choice((0, 1, 2, 99)), "most_open": chance.randint(1, 6),
    }
    parts.update(more)
    return Service(town, **parts)


def levels_for(chance, house):
    """Levels for one tick, mostly above the mark."""
    return tuple(house.mark + (1 if chance.random() < 0.85 else 0) for _ in range(house.seekers))


class PlainRun:
    """A run by a line, panels, tapes and crews of the tests' own. It is given possible happenings alone."""

    def __init__(self, service):
        self.service = service
        self.line = plain.PlainLine(service.town)
        self.panels = {house.box: PlainPanel(house.ring, house.mark, house.rows, house.need)
                       for house in service.houses}
        self.crews = PlainRoom(service.room)
        self.given = {}
        self.book, self.log = [], []
        self.hearings, self.sendings, self.pullings = [], [], []

    def do(self, happening):
        word, *rest = happening
        clock = self.line.clock
        told, row = None, None
        if word == "pull":
            told = self.pull(rest[0])
            row = (told,)
        elif word in ("cut", "mend", "join", "part"):
            self.line.do(happening)
            row = ()
        elif word in ("fault", "heal"):
            faults = self.panels[rest[0]].faults
            faults.add(rest[1]) if word == "fault" else faults.remove(rest[1])
            row = ()
        elif word == "levels":
            happening = (word, rest[0], tuple(rest[1]))
            self.given[rest[0]] = rest[1]
        else:
            told = self.crews.do(happening)
            row = told
        self.log.append((clock, happening))
        if row is not None:
            self.book.append((word, clock, *rest, *row))
        return told

    def pull(self, number):
        taken = self.line.do(("pull", number))
        if taken:
            self.pullings.append((self.line.clock, number))
        return taken

    def tick(self):
        clock = self.line.clock
        for house in self.service.houses:
            levels = self.given.get(house.box, (house.mark,) * house.seekers)
            if self.panels[house.box].beat(levels):
                self.book.append(("warning", clock, house.box, self.pull(house.box)))
        self.given = {}
        self.sendings += [(clock, number) for number in self.line.tick()]
        heard = set()
        for tape in {tuple(tape) for pair in self.line.tapes for tape in pair}:
            heard |= {number for tick, number in plain.heard(tape, self.service.town.hear) if tick == clock}
        for number in sorted(heard):
            self.hearings.append((clock, number))
            if self.crews.grades.get(number) == 0:
                self.book.append(("call", clock, number, *self.crews.do(("call", number))))
        return tuple(sorted(heard))

    def told(self):
        """All that a run tells, as `run_told` below asks it of a ServiceRun."""
        line = self.line
        cuts = tuple(tuple(sorted(one)) for one in line.cut_sets)
        tapes = tuple((tuple(near), tuple(far)) for near, far in line.tapes)
        lists = (self.book, self.log, self.hearings, self.sendings, self.pullings)
        boxes = tuple(line.standing(number) for number in line.boxes)
        rests = not any(left for left, _, _, _ in boxes)
        grades = tuple(self.crews.grades.get(number, 0) for number in line.boxes)
        return (line.clock, line.joined, cuts, tapes, *map(tuple, lists), boxes, rests, grades,
                self.crews.standing()[0])

    def possible(self):
        """All possible happenings but levels, each word with its list."""
        found = {}
        for deed in self.line.possible_deeds():
            word = deed[0]
            is_free = {"cut": self.service.cutting, "mend": self.service.cutting, "join": self.service.joining,
                       "part": self.service.joining}.get(word, True)
            if is_free:
                found.setdefault(word, []).append(deed)
        for box, panel in self.panels.items():
            for fault in all_faults(panel.text):
                found.setdefault("fault", []).append(("fault", box, fault))
            for fault in sorted(panel.faults):
                found.setdefault("heal", []).append(("heal", box, fault))
        for number, grade in self.crews.grades.items():
            if 0 < grade < 3:
                found.setdefault("more", []).append(("more", number))
            if grade:
                found.setdefault("back", []).append(("back", number))
        return found


def some_happening(chance, model):
    found = model.possible()
    words = list(found) + ["pull"] * 5 + [word for word in ("more", "back") if word in found] * 2
    return chance.choice(found[chance.choice(words)])


def run_told(run):
    numbers = run.service.town.numbers
    crews = range(len(run.service.stations))
    return (run.clock, run.is_joined, run.cuts, run.tapes, run.book, run.log, run.hearings, run.sendings, run.pullings,
            tuple(map(run.box, numbers)), run.rests(), tuple(map(run.grade, numbers)), tuple(map(run.place, crews)))

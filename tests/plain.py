"""Plain second reckonings of what the document tells, for the tests to compare with."""

import itertools
import random
import re

ALL_NUMBERS = tuple(
    text
    for many in (1, 2, 3, 4)
    for text in map("".join, itertools.product("123456789", repeat=many))
    if sum(map(int, text)) <= 24
)

# One of each kind of "any object" [0.5], none of them a number or a whole number.
ANY_OBJECTS = (
    None, True, False, "", "\n", "a", "0", "plain ", "12\n", [], (), {}, [[]], ((), []), {"a": [1, {}]},
    [1], (1, 2), ["12", "plain"], [[[[[[[[[[1]]]]]]]]]],
)
WHOLE_NUMBERS = (0, 1, -1, 7, 10 ** 39, -10 ** 39)


def row(number):
    return [int(sign) for sign in "".join("10" * int(digit) + "00" for digit in number) + "00"]


def strokes(number):
    return {offset for offset, sign in enumerate(row(number)) if sign}


def train(number, at, rounds):
    length = len(row(number))
    return {at + k * length + offset for k in range(rounds) for offset in strokes(number)}


def some_numbers(seed, many):
    return random.Random(seed).sample(ALL_NUMBERS, many)


def signs_text(tape):
    return "".join(map(str, tape))


NUMBERS_BY_ROW = {signs_text(row(number)): number for number in ALL_NUMBERS}


def pieces(tape):
    """All (index, piece) of a tape, by one pattern over its text."""
    text = signs_text(tape)
    found = []
    for match in re.finditer("2+|0+|1[01]*?00000|1[01]*", text):
        part = match.group()
        many = len(part)
        if part[0] == "2":
            piece = ("key", many)
        elif part[0] == "0":
            piece = ("quiet", many)
        elif part.endswith("00000"):
            piece = ("round", NUMBERS_BY_ROW[part]) if part in NUMBERS_BY_ROW else ("odd", many)
        else:
            piece = ("begun" if match.end() == len(text) else "spoilt", many)
        found.append((match.start(), piece))
    return found


def heard(tape, hear):
    found = []
    before = None
    for at, (word, worth) in pieces(tape):
        if word == "quiet":
            continue
        if word == "round" and (hear == 1 or before == worth):
            found.append((at + len(row(worth)) - 1, worth))
        before = worth if word == "round" else None
    return found


class PlainLine:
    """A line box by box, as [3.1] to [3.8] tell it, with nothing kept between two ticks but what must be."""

    def __init__(self, town):
        self.town = town
        self.boxes = {}
        for loop, boxes in enumerate(town.loops):
            for place, (number, sort) in enumerate(boxes):
                self.boxes[number] = {
                    "loop": loop, "at": place, "shy": sort == "shy", "row": row(number),
                    "left": 0, "sent": 0, "place": None, "quiet": 0,
                }
        self.cut_sets = [set() for _ in town.loops]
        self.joined = False
        self.clock = 0
        self.held = [0 for _ in town.loops]
        self.tapes = [([], []) for _ in town.loops]

    def do(self, deed):
        word = deed[0]
        loops = list(range(len(self.held)))
        if word == "pull":
            box = self.boxes[deed[1]]
            if box["left"]:
                return False
            box["left"], box["sent"] = self.town.rounds, 0
            return True
        if word == "cut":
            self.cut_sets[deed[1]].add(deed[2])
        if word == "mend":
            self.cut_sets[deed[1]].remove(deed[2])
        if word in ("join", "part"):
            self.joined = word == "join"
        elif not self.joined:
            loops = [deed[1]]
        for loop in loops:
            self.held[loop] = 2
        return None

    def reaches(self, box, end):
        """Whether no cut lies between the box and this end of its loop."""
        cuts = self.cut_sets[box["loop"]]
        if end == "near":
            return all(stretch > box["at"] for stretch in cuts)
        return all(stretch <= box["at"] for stretch in cuts)

    def is_dumb(self, box):
        return not self.reaches(box, "near") and not self.reaches(box, "far")

    def share_wire(self, one, other):
        if self.is_dumb(one) or self.is_dumb(other):
            return False
        if self.joined:
            return True
        if one["loop"] != other["loop"]:
            return False
        return any(self.reaches(one, end) and self.reaches(other, end) for end in ("near", "far"))

    def breaks(self, box):
        return box["place"] is not None and box["row"][box["place"]] == 1

    def can_begin(self, box):
        enough = not box["shy"] or box["quiet"] >= 8 + box["sent"]
        return box["place"] is None and box["left"] > 0 and enough

    def end_broken(self, loop, end):
        broken = [box for box in self.boxes.values() if self.breaks(box) and not self.is_dumb(box)]
        if self.joined:
            return bool(broken)
        return any(box["loop"] == loop and self.reaches(box, end) for box in broken)

    def tick(self):
        for box in self.boxes.values():
            if self.can_begin(box):
                box["place"] = 0
        feelings = {}
        for number, box in self.boxes.items():
            others = [other for other in self.boxes.values() if self.share_wire(box, other) and self.breaks(other)]
            feelings[number] = self.is_dumb(box) or bool(others) or self.held[box["loop"]] > 0
        for loop, (near, far) in enumerate(self.tapes):
            for tape, end in ((near, "near"), (far, "far")):
                tape.append(2 if self.held[loop] > 0 else int(self.end_broken(loop, end)))
        sent = [number for number, box in self.boxes.items() if self.end_of_tick(box, feelings[number])]
        self.held = [max(0, left - 1) for left in self.held]
        self.clock += 1
        return tuple(sorted(sent))

    def end_of_tick(self, box, broken):
        sent = False
        if box["place"] is not None:
            if box["shy"] and broken and not self.breaks(box):
                box["place"] = None
            else:
                box["place"] += 1
                if box["place"] == len(box["row"]):
                    sent = True
                    box["place"] = None
                    box["left"] -= 1
                    box["sent"] = box["sent"] + 1 if box["left"] else 0
        if box["shy"]:
            box["quiet"] = 0 if broken else min(16, box["quiet"] + 1)
        return sent

    def standing(self, number):
        box = self.boxes[number]
        return box["left"], box["sent"], box["place"], box["quiet"]

    def told(self):
        """All that a line tells, as `line_told` below asks it of a Line."""
        last = tuple(tape[-1] for pair in self.tapes for tape in pair) if self.clock else ()
        return (
            self.clock, self.joined, tuple(tuple(sorted(cuts)) for cuts in self.cut_sets), last,
            tuple((tuple(near), tuple(far)) for near, far in self.tapes),
            tuple(self.standing(number) for number in self.boxes),
        )

    def possible_deeds(self):
        deeds = [("pull", number) for number in self.boxes]
        for loop, boxes in enumerate(self.town.loops):
            for stretch in range(len(boxes) + 1):
                word = "mend" if stretch in self.cut_sets[loop] else "cut"
                deeds.append((word, loop, stretch))
        deeds.append(("part",) if self.joined else ("join",))
        return deeds


def line_told(line):
    return (
        line.clock, line.is_joined, line.cuts, line.last_signs, line.tapes,
        tuple(line.box(number) for number in line.town.numbers),
    )


def some_loops(chance, sorts=("plain", "shy"), most_boxes=10, short=True):
    """Loops of boxes with different numbers, short ones if asked, so that they meet more often."""
    many = [chance.randint(1, most_boxes) for _ in range(chance.randint(1, 3))]
    pool = [number for number in ALL_NUMBERS if not short or len(row(number)) <= 24]
    numbers = chance.sample(pool, sum(many))
    loops = []
    for size in many:
        loops.append([(numbers.pop(), chance.choice(sorts)) for _ in range(size)])
    return loops


def some_deed(chance, model):
    """A possible deed: mostly a pull, sometimes one on the wires."""
    deeds = model.possible_deeds()
    pulls = [deed for deed in deeds if deed[0] == "pull"]
    others = [deed for deed in deeds if deed[0] != "pull"]
    return chance.choice(pulls) if chance.random() < 0.75 else chance.choice(others)

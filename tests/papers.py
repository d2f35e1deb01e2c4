"""Plain second reckonings of questions, covers and trees, for the tests to compare with."""

import itertools

from tests import plain
from tests.test_lays import plain_lays
from wheelchorus.errors import TooManyCases
from wheelchorus.readable import false_reading
from wheelchorus.trees import Tree

SMALL = [number for number in plain.ALL_NUMBERS if len(plain.row(number)) <= 16]
CASES = ("quiet", "train", "key")

# The arguments of false readings and of their judges [5.7], in the order in which they are checked.
GOOD_HEARING = {"number": "24", "boxes": (("3", "plain"), ("1", "shy")), "rounds": 3, "hear": 2, "key": True}
WRONG_HEARING = {
    "number": plain.ANY_OBJECTS + ("889", 24),
    "boxes": (None, "1", {}, ["1"], [("1", "plain"), ("1", "shy")], [("24", "plain")], [("1", "Plain")],
              tuple((number, "plain") for number in plain.some_numbers(593, 31))),
    "rounds": plain.ANY_OBJECTS + (0, 9),
    "hear": plain.ANY_OBJECTS + (0, 3),
    "key": (None, 0, 1, "", "key", []),
}


class Full(Exception):
    """More nodes than were allowed."""


class PlainQuestion:
    def __init__(self, number, boxes, *, rounds, case, times=1, clean=False):
        row = plain.row(number)
        self.span = times * len(row)
        self.strokes = sorted(offset + k * len(row) for k in range(times) for offset in plain.strokes(number))
        # For each facts the strokes, the first offset and the one behind the last.
        self.lays = {}
        seen = set()
        for name, kind, at, left, strokes, end in plain_lays(set(self.strokes), self.span, boxes, rounds, case):
            if (name, kind, at, strokes) not in seen and not (clean and end > self.span):
                self.lays[name, kind, at, left] = (set(strokes), at, end)
            seen.add((name, kind, at, strokes))

    def is_facts(self, thing):
        return type(thing) is tuple and list(map(type, thing)) == [str, str, int, int] and thing in self.lays

    def clash(self, one, other):
        _, start, end = self.lays[one]
        _, other_start, other_end = self.lays[other]
        return one[0] == other[0] and bool(set(range(start, end)) & set(range(other_start, other_end)))

    def choices(self, stroke, chosen):
        return tuple(
            facts for facts, (strokes, _, _) in self.lays.items()
            if stroke in strokes and not any(self.clash(facts, other) for other in chosen)
        )

    def open_strokes(self, chosen):
        given = set().union(*[self.lays[facts][0] for facts in chosen])
        return [stroke for stroke in self.strokes if stroke not in given]

    def is_cover(self, chosen):
        pairs = itertools.combinations(chosen, 2)
        return not self.open_strokes(chosen) and not any(self.clash(one, other) for one, other in pairs)

    def cover_fault(self, things):
        for index, thing in enumerate(things):
            if not self.is_facts(thing):
                return "lay", index
        for index, earlier in sorted((k, i) for k in range(len(things)) for i in range(k)):
            if self.clash(things[earlier], things[index]):
                return "clash", earlier, index
        left = self.open_strokes(things)
        return ("open", left[0]) if left else None

    def search(self, most):
        """A list of facts for a cover, or the nested tuples of a tree; and how many nodes there were."""
        self.nodes = 0
        return self.search_below([], most), self.nodes

    def search_below(self, chosen, most):
        self.nodes += 1
        if self.nodes > most:
            raise Full
        stroke = self.open_strokes(chosen)[0]
        branches = []
        for facts in self.choices(stroke, chosen):
            if not self.open_strokes(chosen + [facts]):
                return chosen + [facts]
            found = self.search_below(chosen + [facts], most)
            if isinstance(found, list):
                return found
            branches.append((facts, found))
        return stroke, tuple(branches)

    def least_covers(self, most):
        """All covers of the least size, by trying all sets of at most this many lays; None if none is so small."""
        for size in range(1, most + 1):
            found = [chosen for chosen in itertools.combinations(self.lays, size) if self.is_cover(chosen)]
            if found:
                return found
        return None

    def tree_fault(self, tree):
        waiting = [(tree, (), ())]
        while waiting:
            node, chosen, path = waiting.pop()
            given = set().union(*[self.lays[facts][0] for facts in chosen])
            if type(node.stroke) is not int or node.stroke not in set(self.strokes) - given:
                return "stroke", path
            due = self.choices(node.stroke, chosen)
            names = [facts for facts, _ in node.branches]
            for index, facts in enumerate(names):
                if not self.is_facts(facts) or facts not in due:
                    return "lay", path
                if facts in names[:index]:
                    return "double", path
            if set(names) != set(due):
                return "missing", path
            for index, (facts, below) in reversed(list(enumerate(node.branches))):
                waiting.append((below, chosen + (facts,), path + (index,)))
        return None


def told_tree(tree):
    return tree.stroke, tuple((facts, told_tree(below)) for facts, below in tree.branches)


def made_tree(told):
    stroke, branches = told
    return Tree(stroke, [(facts, made_tree(below)) for facts, below in branches])


def some_boxes(chance, many, pool=None):
    share = chance.random()
    numbers = chance.sample(SMALL if pool is None else pool, many)
    return tuple((number, "plain" if chance.random() < share else "shy") for number in numbers)


def some_arguments(chance, most_boxes=8):
    """Arguments of a question in which lays of all kinds are to be found."""
    number = chance.choice(chance.choice((SMALL, plain.ALL_NUMBERS)))
    boxes = tuple(box for box in some_boxes(chance, chance.randint(0, most_boxes)) if box[0] != number)
    more = {
        "rounds": chance.choice((1, 1, 2, 3, 8)), "case": chance.choice(CASES), "times": chance.choice((1, 1, 2)),
        "clean": chance.random() < 0.25,
    }
    return number, boxes, more


# Wires on which a number can be heard with hear 2, but only by two pieces apart: (number, boxes, rounds, key).
APART_WIRES = (
    ("13", (("111", "plain"), ("1", "shy"), ("22", "plain"), ("12", "shy")), 3, True),
    ("3", (("21", "shy"), ("5", "plain"), ("12", "plain"), ("11", "plain")), 2, True),
    ("31", (("1", "plain"), ("3", "shy"), ("5", "plain")), 3, True),
    ("12", (("1", "plain"), ("11", "shy")), 2, False),
    ("22", (("1", "plain"), ("4", "plain"), ("21", "shy")), 2, True),
    ("31", (("3", "shy"), ("1", "plain"), ("5", "shy")), 2, True),
    ("13", (("1", "plain"), ("12", "shy"), ("111", "plain")), 4, False),
    ("5", (("21", "plain"), ("111", "plain"), ("4", "shy"), ("31", "shy")), 3, True),
    ("5", (("22", "shy"), ("13", "plain"), ("2", "plain")), 3, False),
)


def some_readings(chance, many):
    """Wires with readings of all forms: (boxes, reading, the words hear and key)."""
    found = []
    for number, boxes, rounds, key in APART_WIRES:
        more = {"hear": 2, "key": key}
        found.append((boxes, false_reading(boxes, number, rounds=rounds, **more), more))
    numbers = [number for number in plain.ALL_NUMBERS if len(plain.row(number)) <= 14]
    while len(found) < many:
        number = chance.choice(numbers)
        boxes = tuple(box for box in some_boxes(chance, chance.randint(1, 4), numbers) if box[0] != number)
        rounds = chance.randint(1, 4)
        more = {"hear": chance.choice((1, 2, 2)) if rounds > 1 else 1, "key": chance.random() < 0.5}
        try:
            reading = false_reading(boxes, number, rounds=rounds, **more)
        except TooManyCases:
            continue
        if not reading.is_safe:
            found.append((boxes, reading, more))
    return found


def plain_false_reading(boxes, number, *, rounds, hear=1, key=False):
    """[5.7] by plain searches: a Reading as (form, case, first, second), or a Safe as the list of its papers."""
    cases = [case for case in CASES if case == "quiet" or (rounds > 1 if case == "train" else key)]

    def ask(asked, times, clean):
        papers = []
        for case in asked:
            answer, _ = PlainQuestion(number, boxes, rounds=rounds, case=case, times=times, clean=clean).search(2000)
            if isinstance(answer, list):
                return case, tuple(answer)
            papers.append((times, case, clean, answer))
        return papers

    answer = ask(cases, hear, False)
    if isinstance(answer, tuple):
        return ("doubled" if hear == 2 else "once",) + answer + ((),)
    if hear == 1:
        return answer
    first = ask(cases, 1, True)
    if isinstance(first, list):
        return answer + first
    second = ask(["quiet"], 1, False)
    return answer + second if isinstance(second, list) else ("apart",) + first + second[1:]

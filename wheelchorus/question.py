"""Questions: whether other boxes can together sound the rows of a number [5.1], [5.2]."""

from wheelchorus.errors import BadQuestion
from wheelchorus.kinds import is_whole, is_whole_within
from wheelchorus.lays import KEY, QUIET, TRAIN, clash, lays
from wheelchorus.numbers import is_number, length_of
from wheelchorus.rows import pattern
from wheelchorus.town import MOST_ROUNDS, are_boxes

MOST_OTHERS = 30
# With one round there is no round to turn before, so this case is not asked [5.7].
LEAST_TRAIN_ROUNDS = 2


class Question:
    def __init__(self, number, boxes, *, rounds, case, times=1, clean=False):
        check_others(number, boxes, rounds)
        if case not in (QUIET, TRAIN, KEY):
            raise BadQuestion("case")
        if not is_whole_within(times, 1, 2):
            raise BadQuestion("times")
        if not isinstance(clean, bool):
            raise BadQuestion("clean")
        self.number = number
        self.boxes = tuple([tuple(box) for box in boxes])
        self.rounds = rounds
        self.case = case
        self.times = times
        self.clean_only = clean
        self.pattern = pattern(number, times)
        self.span = times * length_of(number)
        self.lays = tuple(self.different_lays())
        self.lay_facts = tuple([lay.facts() for lay in self.lays])
        self._by_facts = {lay.facts(): lay for lay in self.lays}
        self._by_stroke = lays_by_stroke(self.lays)

    def __iter__(self):
        return iter(self.lay_facts)

    def __len__(self):
        return len(self.lay_facts)

    def __contains__(self, x):
        return are_facts(x) and x in self._by_facts

    def different_lays(self):
        """The lays of this question: of several that give the same, the first one alone."""
        found = {}
        for lay in lays(self.pattern, self.span, self.boxes, self.rounds, self.case):
            if lay.clean(self.span) or not self.clean_only:
                # Later ones differ just in rounds that give nothing within the span.
                found.setdefault((lay.number, lay.kind, lay.at, lay.strokes.offsets), lay)
        return list(found.values())

    def lay(self, facts):
        return self._by_facts.get(facts) if are_facts(facts) else None

    def choices(self, stroke, chosen):
        taken = {}
        for facts in chosen:
            taken.setdefault(facts[0], []).append(self.lay(facts))
        free = []
        for lay in self._by_stroke.get(stroke, []):
            if not any([clash(lay, other) for other in taken.get(lay.number, [])]):
                free.append(lay.facts())
        return tuple(free)

    def open_strokes(self, chosen):
        """The strokes of the pattern that none of these lays gives, ascending."""
        given = {offset: True for facts in chosen for offset in self.lay(facts).strokes}
        return [stroke for stroke in self.pattern if stroke not in given]

    def first_open(self, chosen):
        """The first stroke of the pattern that none of these lays gives; None if each is given."""
        strokes = self.open_strokes(chosen)
        return strokes[0] if len(strokes) > 0 else None


def lays_by_stroke(some_lays):
    """For each stroke the lays that give it, in their order."""
    found = {}
    for lay in some_lays:
        for stroke in lay.strokes:
            found.setdefault(stroke, []).append(lay)
    return found


def are_facts(thing):
    """Whether this could be the facts of a lay: a tuple without True and False, in which all can be a key."""
    if not isinstance(thing, tuple) or len(thing) != 4:
        return False
    number, kind, at, rounds = thing
    return isinstance(number, str) and isinstance(kind, str) and is_whole(at) and is_whole(rounds)


def check_others(number, boxes, rounds):
    if not is_number(number):
        raise BadQuestion("number")
    if not are_boxes(boxes, 0, MOST_OTHERS) or number in [other for other, _ in boxes]:
        raise BadQuestion("boxes")
    if not is_whole_within(rounds, 1, MOST_ROUNDS):
        raise BadQuestion("rounds")


def check_hearing(number, boxes, rounds, hear, key):
    """The arguments of a false reading and of its judges, in the order of [5.7]."""
    check_others(number, boxes, rounds)
    if not is_whole_within(hear, 1, 2) or hear > rounds:
        raise BadQuestion("hear")
    if not isinstance(key, bool):
        raise BadQuestion("key")


def cases_asked(rounds, key):
    cases = [QUIET]
    if rounds >= LEAST_TRAIN_ROUNDS:
        cases.append(TRAIN)
    if key:
        cases.append(KEY)
    return cases

"""What one box can give to a pattern: trains, lays and clashes [2.2], [2.5] to [2.8]."""

from wheelchorus.errors import BadCase, NoLay
from wheelchorus.heads import head_of
from wheelchorus.numbers import length_of
from wheelchorus.rows import Strokes, strokes_of
from wheelchorus.town import Town

QUIET = "quiet"
TRAIN = "train"
KEY = "key"


class Lay:
    def __init__(self, number, kind, at, rounds, strokes, end):
        self.number = number
        self.kind = kind
        self.at = at
        self.rounds = rounds
        self.strokes = strokes
        self.end = end

    def __eq__(self, other):
        return (
            isinstance(other, Lay)
            and self.number == other.number
            and self.kind == other.kind
            and self.at == other.at
            and self.rounds == other.rounds
            and self.strokes == other.strokes
            and self.end == other.end
        )

    def facts(self):
        return self.number, self.kind, self.at, self.rounds

    def gives(self, offset):
        return offset in self.strokes

    def clean(self, span):
        return self.end <= span


def train_strokes(number, at, rounds, span):
    length = length_of(number)
    strokes = strokes_of(number)
    offsets = [at + index * length + offset for index in range(rounds) for offset in strokes]
    return Strokes([offset for offset in offsets if 0 <= offset < span])


def lays(pattern, span, boxes, rounds, case):
    if case not in (QUIET, TRAIN, KEY):
        raise BadCase(case)
    for number, sort in boxes:
        if sort == Town.PLAIN:
            found = plain_lays(pattern, span, number, rounds, case)
        else:
            found = shy_lays(pattern, span, number, case)
        yield from found


def shy_lays(pattern, span, number, case):
    """A shy box gives a head alone, and only behind a quiet wire."""
    head = head_of(number, pattern)
    if case != QUIET or len(head) == 0:
        return []
    return [Lay(number, "head", 0, 1, head, span)]


def plain_lays(pattern, span, number, rounds, case):
    train = Train(pattern, span, number)
    found = []
    if case != QUIET:
        found.extend(train.lays_from("train", 0, 1, rounds - 1))
    if case == KEY:
        for ticks in range(1, length_of(number)):
            found.extend(train.lays_from("tail", -ticks, 1, rounds))
    # A pull begins with a stroke, so it can only begin at a stroke of the pattern.
    for at in pattern.cut(span):
        found.extend(train.lays_from("pull", at, rounds, rounds))
    return found


class Train:
    """The trains of one plain box over a pattern."""

    def __init__(self, pattern, span, number):
        self.span = span
        self.number = number
        self.length = length_of(number)
        self.offsets = strokes_of(number).offsets
        self.known = {offset: True for offset in pattern}

    def lays_from(self, kind, at, least, most):
        """The lays of this kind whose train begins here and has from least to most rounds."""
        found = []
        for rounds in range(least, self.good_rounds(at, most) + 1):
            strokes = train_strokes(self.number, at, rounds, self.span)
            if len(strokes) > 0:
                found.append(Lay(self.number, kind, at, rounds, strokes, at + rounds * self.length))
        return found

    def good_rounds(self, at, most):
        """How many rounds of a train that begins here, most at most, give strokes of the pattern alone."""
        for index in range(most):
            # A train with a wrong round is wrong with all later rounds, too.
            if self.has_foreign(at + index * self.length):
                return index
        return most

    def has_foreign(self, at):
        """Whether a row that begins here has a stroke within the span that is none of the pattern."""
        for offset in self.offsets:
            if at + offset not in self.known and 0 <= at + offset < self.span:
                return True
        return False


def lay_of(facts, pattern, span, boxes, rounds, case):
    for lay in lays(pattern, span, boxes, rounds, case):
        if are_facts_of(facts, lay):
            return lay
    raise NoLay(facts)


def are_facts_of(thing, lay):
    # True equals 1, but a tuple with True or False is nobody's facts.
    if not isinstance(thing, tuple) or any([isinstance(part, bool) for part in thing]):
        return False
    return thing == lay.facts()


def clash(one, other):
    return one.number == other.number and one.at < other.end and other.at < one.end

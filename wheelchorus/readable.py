"""False readings: whether a number can be heard that nobody pulled, and the papers for it [5.7], [5.8], [5.11]."""

from wheelchorus.covers import Cover, search
from wheelchorus.errors import BadQuestion
from wheelchorus.kinds import copy_of
from wheelchorus.lays import QUIET
from wheelchorus.question import Question, cases_asked, check_hearing

MOST_SET_BOXES = 6


class Reading:
    """Shows that a number can be heard falsely: the lays that make it."""

    def __init__(self, number, rounds, form, case, first, second=()):
        self.number = number
        self.rounds = rounds
        self.form = form
        self.case = case
        self.first = tuple([copy_of(facts) for facts in first])
        self.second = tuple([copy_of(facts) for facts in second])

    @property
    def is_safe(self):
        return False


class Safe:
    """Shows that a number cannot be heard falsely: a tree for each question that was asked."""

    def __init__(self, number, papers):
        self.number = number
        self.papers = tuple([copy_of(paper) for paper in papers])

    @property
    def is_safe(self):
        return True


class Asker:
    """Asks questions about one number on one wire."""

    def __init__(self, boxes, number, rounds):
        self.boxes = boxes
        self.number = number
        self.rounds = rounds

    def ask(self, cases, times, clean):
        """The papers of the cases up to the first that has a cover, and its (case, facts); None if none has."""
        papers = []
        for case in cases:
            question = Question(
                self.number, self.boxes, rounds=self.rounds, case=case, times=times, clean=clean
            )
            answer = search(question)
            if isinstance(answer, Cover):
                return papers, (case, answer.lay_facts)
            papers.append((times, case, clean, answer))
        return papers, None

    def safe(self, papers):
        return Safe(self.number, papers)

    def reading(self, form, found, second=()):
        case, first = found
        return Reading(self.number, self.rounds, form, case, first, second)


def false_reading(boxes, number, *, rounds, hear=1, key=False):
    check_hearing(number, boxes, rounds, hear, key)
    asker = Asker(boxes, number, rounds)
    cases = cases_asked(rounds, key)
    papers, found = asker.ask(cases, hear, False)
    if found is not None:
        return asker.reading("once" if hear == 1 else "doubled", found)
    if hear == 1:
        return asker.safe(papers)
    clean_papers, clean_found = asker.ask(cases, 1, True)
    if clean_found is None:
        return asker.safe(papers + clean_papers)
    quiet_papers, quiet_found = asker.ask([QUIET], 1, False)
    if quiet_found is None:
        return asker.safe(papers + quiet_papers)
    _, second = quiet_found
    return asker.reading("apart", clean_found, second)


def least_box_sets(boxes, number, *, rounds, hear=1, key=False):
    check_hearing(number, boxes, rounds, hear, key)
    if len(boxes) > MOST_SET_BOXES:
        raise BadQuestion("boxes")
    found = []
    for indexes in index_sets(len(boxes)):
        if any([holds(indexes, smaller) for smaller in found]):
            continue
        chosen = [boxes[index] for index in indexes]
        if not false_reading(chosen, number, rounds=rounds, hear=hear, key=key).is_safe:
            found.append(indexes)
    return tuple([tuple([boxes[index][0] for index in indexes]) for indexes in found])


def holds(indexes, smaller):
    return all([index in indexes for index in smaller])


def index_sets(many):
    """All ascending tuples of indexes below many, by size, then as Python orders tuples."""
    found = [()]
    level = [()]
    for _ in range(many):
        level = [(*indexes, index) for indexes in level for index in range(next_index(indexes), many)]
        found.extend(level)
    return found


def next_index(indexes):
    return indexes[-1] + 1 if len(indexes) > 0 else 0

"""Judges of covers, trees, Safes and Readings, however they were made [5.3], [5.4], [5.8]."""

from wheelchorus.kinds import is_whole
from wheelchorus.lays import QUIET, clash
from wheelchorus.question import Question, cases_asked, check_hearing
from wheelchorus.trees import Tree


def cover_fault(question, lay_facts):
    for index, facts in enumerate(lay_facts):
        if facts not in question:
            return "lay", index
    found = [question.lay(facts) for facts in lay_facts]
    for index, lay in enumerate(found):
        for earlier in range(index):
            if clash(found[earlier], lay):
                return "clash", earlier, index
    stroke = question.first_open(lay_facts)
    return None if stroke is None else ("open", stroke)


def tree_fault(question, tree):
    return fault_below(question, tree, (), ())


def fault_below(question, tree, chosen, path):
    """The first fault of this node and of all below it; chosen are the lays of the branches on the path."""
    word = node_fault(question, tree, chosen)
    if word is not None:
        return word, path
    for index, (facts, below) in enumerate(tree.branches):
        fault = fault_below(question, below, (*chosen, facts), (*path, index))
        if fault is not None:
            return fault
    return None


def node_fault(question, tree, chosen):
    if tree.stroke not in question.pattern or any([question.lay(facts).gives(tree.stroke) for facts in chosen]):
        return "stroke"
    choices = question.choices(tree.stroke, chosen)
    earlier = {}
    for facts, _ in tree.branches:
        if facts not in question or facts not in choices:
            return "lay"
        if facts in earlier:
            return "double"
        earlier[facts] = True
    # Each branch has another one of the choices, so none lacks if there are as many.
    return "missing" if len(earlier) < len(choices) else None


def safe_fault(boxes, number, safe, *, rounds, hear=1, key=False):
    check_hearing(number, boxes, rounds, hear, key)
    if not are_papers(safe.papers, rounds, hear, key):
        return ("papers",)
    for index, (times, case, clean, tree) in enumerate(safe.papers):
        question = Question(number, boxes, rounds=rounds, case=case, times=times, clean=clean)
        fault = tree_fault(question, tree)
        if fault is not None:
            word, path = fault
            return index, word, path
    return None


def are_papers(papers, rounds, hear, key):
    """Whether these are the papers that are due, by times, case and clean."""
    if not all([is_paper(paper) for paper in papers]):
        return False
    cases = cases_asked(rounds, key)
    due = [(hear, case, False) for case in cases]
    told = [paper[:3] for paper in papers]
    if hear == 1:
        return told == due
    return told == due + [(1, case, True) for case in cases] or told == due + [(1, QUIET, False)]


def is_paper(thing):
    # True equals 1 and 0 equals False, so the kinds are asked ahead of the values.
    if not isinstance(thing, tuple) or len(thing) != 4:
        return False
    times, _, clean, tree = thing
    return is_whole(times) and isinstance(clean, bool) and isinstance(tree, Tree)


def reading_fault(boxes, reading, *, hear=1, key=False):
    number = reading.number
    rounds = reading.rounds
    check_hearing(number, boxes, rounds, hear, key)
    if not is_form(reading, hear):
        return ("form",)
    if reading.case not in cases_asked(rounds, key):
        return ("case",)
    is_apart = reading.form == "apart"
    times = 2 if reading.form == "doubled" else 1
    question = Question(number, boxes, rounds=rounds, case=reading.case, times=times, clean=is_apart)
    fault = cover_fault(question, reading.first)
    if fault is not None:
        return "first", fault
    if not is_apart:
        return None
    fault = cover_fault(Question(number, boxes, rounds=rounds, case=QUIET), reading.second)
    return None if fault is None else ("second", fault)


def is_form(reading, hear):
    if reading.form == "apart":
        return hear == 2
    return reading.form == ("once" if hear == 1 else "doubled") and len(reading.second) == 0

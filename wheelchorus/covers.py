"""Covers of a question: the search of one, and all that have the fewest lays [5.3], [5.5], [5.6]."""

from wheelchorus.errors import TooManyCases, TooManyLays
from wheelchorus.kinds import copy_of
from wheelchorus.trees import Tree

MOST_NODES = 2000
MOST_LAYS = 24


class Cover:
    def __init__(self, lay_facts):
        self.lay_facts = tuple([copy_of(facts) for facts in lay_facts])

    def __iter__(self):
        return iter(self.lay_facts)

    def __len__(self):
        return len(self.lay_facts)

    def __eq__(self, other):
        return isinstance(other, Cover) and self.lay_facts == other.lay_facts


class Searcher:
    """Searches one question depth first, and counts the nodes."""

    def __init__(self, question):
        self.question = question
        self.nodes = 0

    def search_below(self, chosen):
        """A Cover that holds the chosen lays, or the Tree which shows that there is none."""
        if self.nodes == MOST_NODES:
            raise TooManyCases(self.question.number)
        self.nodes += 1
        stroke = self.question.first_open(chosen)
        branches = []
        for facts in self.question.choices(stroke, chosen):
            longer = (*chosen, facts)
            if self.question.first_open(longer) is None:
                return Cover(longer)
            found = self.search_below(longer)
            if isinstance(found, Cover):
                return found
            branches.append((facts, found))
        return Tree(stroke, branches)


def search(question):
    return Searcher(question).search_below(())


def least_covers(question):
    for indexes in least_index_sets(question):
        yield cover_at(question, indexes)


def least_cover(question):
    sets = least_index_sets(question)
    return cover_at(question, sets[0]) if len(sets) > 0 else None


def cover_at(question, indexes):
    return Cover(facts_at(question, indexes))


def facts_at(question, indexes):
    return [question.lay_facts[index] for index in indexes]


def least_index_sets(question):
    """The covers with the fewest lays as ascending tuples of indexes, in order; none if there is no cover."""
    if len(question) > MOST_LAYS:
        raise TooManyLays(len(question))
    sets = [()]
    while len(sets) > 0:
        sets = with_one_more(question, sets)
        found = [indexes for indexes in sets if question.first_open(facts_at(question, indexes)) is None]
        if len(found) > 0:
            return sorted(found)
    return []


def with_one_more(question, sets):
    """All sets that have one more lay, which gives an open stroke; each of them once."""
    places = {facts: index for index, facts in enumerate(question)}
    larger = {}
    for indexes in sets:
        for facts in fewest_choices(question, facts_at(question, indexes)):
            larger[tuple(sorted([*indexes, places[facts]]))] = True
    return list(larger)


def fewest_choices(question, chosen):
    """The choices for that open stroke for which there are the fewest; each cover has one of them."""
    return min([question.choices(stroke, chosen) for stroke in question.open_strokes(chosen)], key=len)

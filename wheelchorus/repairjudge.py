"""Judges repairs, however they were made [10.8]."""

from wheelchorus.errors import CannotBe
from wheelchorus.repairs import SAFE, fate_of, is_index_tuple, least_of, sets_of, with_changes
from wheelchorus.verdictjudge import verdict_fault


def repairs_fault(service, pool, entries, least):
    sets = list(sets_of(len(pool)))
    if not are_sets([chosen for chosen, _ in entries], sets):
        return ("sets",)
    for chosen, paper in entries:
        word = entry_word(service, pool, chosen, paper)
        if word is not None:
            return word, chosen
    good = [chosen for chosen, paper in entries if fate_of(paper) == SAFE]
    return None if are_sets(least, least_of(good)) else ("least",)


def are_sets(things, sets):
    """Whether these objects are just these sets, in order."""
    return all([is_index_tuple(thing) for thing in things]) and list(things) == list(sets)


def entry_word(service, pool, chosen, paper):
    """The word for what is wrong with this entry, or None."""
    try:
        other = with_changes(service, pool, chosen)
    except CannotBe:
        return None if paper is None else "cannot"
    if paper is None:
        return "cannot"
    return None if verdict_fault(other, paper) is None else "verdict"

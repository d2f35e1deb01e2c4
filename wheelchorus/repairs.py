"""Repairs: which sets of changes make a service safe, and keep it so [10.4] to [10.7]."""

from wheelchorus.changes import changed, is_change
from wheelchorus.errors import BadChange, CannotBe, NoSet, TooManyChanges
from wheelchorus.kinds import is_sequence, is_whole
from wheelchorus.readable import holds, index_sets
from wheelchorus.verdict import Judge

MOST_CHANGES = 6
CANNOT = "cannot"
SAFE = "safe"


class Repairs:
    def __init__(self, service, pool, entries):
        self.service = service
        self.pool = pool
        self.entries = entries
        self._papers = {chosen: paper for chosen, paper in entries}
        self._fates = {chosen: fate_of(paper) for chosen, paper in entries}
        self.good = sets_with(self._fates, (SAFE,))
        self.least = least_of(self.good)
        self.firm = tuple([chosen for chosen in self.good if is_firm(chosen, self._fates)])
        self.least_firm = least_of(self.firm)
        self.harms = harms_in(self._fates, len(pool))

    def __iter__(self):
        return iter(self.least)

    def __len__(self):
        return len(self.least)

    def __contains__(self, x):
        return is_index_tuple(x) and x in self.least

    def fate(self, chosen):
        self.check_set(chosen)
        return self._fates[chosen]

    def paper(self, chosen):
        self.check_set(chosen)
        return self._papers[chosen]

    def service_of(self, chosen):
        self.check_set(chosen)
        return with_changes(self.service, self.pool, chosen)

    def check_set(self, thing):
        if not is_index_tuple(thing) or thing not in self._papers:
            raise NoSet(thing)


def is_index_tuple(thing):
    # True equals 1 and False equals 0, but they are no indexes.
    return isinstance(thing, tuple) and all([is_whole(index) for index in thing])


def with_changes(service, pool, chosen):
    return changed(service, [pool[index] for index in chosen])


def fate_of(paper):
    """The fate of a set whose changed service has this verdict."""
    if paper is None:
        return CANNOT
    return SAFE if paper.is_safe else paper.statement


def sets_with(fates, words):
    return tuple([chosen for chosen in fates if fates[chosen] in words])


def least_of(sets):
    """Those of these sets that have no other one of them as a part."""
    return tuple([chosen for chosen in sets if not any([is_part(other, chosen) for other in sets])])


def is_part(smaller, chosen):
    return len(smaller) < len(chosen) and holds(chosen, smaller)


def is_firm(chosen, fates):
    return all([fates[other] in (SAFE, CANNOT) for other in fates if holds(other, chosen)])


def harms_in(fates, many):
    """The good sets with each index that makes another statement fail."""
    harms = []
    for chosen in sets_with(fates, (SAFE,)):
        for index in range(many):
            larger = tuple(sorted([*chosen, index]))
            if index not in chosen and fates[larger] not in (SAFE, CANNOT):
                harms.append((chosen, index))
    return tuple(harms)


def sets_of(many):
    yield from index_sets(many)


def least_repairs(service, pool):
    if len(pool) > MOST_CHANGES:
        raise TooManyChanges(len(pool))
    for index, change in enumerate(pool):
        if not is_change(service, change):
            raise BadChange(index)
    judge = Judge()
    entries = [(chosen, judged_set(judge, service, pool, chosen)) for chosen in sets_of(len(pool))]
    return Repairs(service, tuple([kept_change(change) for change in pool]), tuple(entries))


def judged_set(judge, service, pool, chosen):
    """The verdict on the service with these changes; None if they cannot be done."""
    try:
        other = with_changes(service, pool, chosen)
    except CannotBe:
        return None
    return judge.whole(other)


def kept_change(change):
    """The change with tuples alone."""
    return tuple([tuple(part) if is_sequence(part) else part for part in change])

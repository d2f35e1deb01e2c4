"""Plays pulls on the wheels of the boxes, and judges whether they hide the called box [6.9]."""

from wheelchorus.boxes import MOST_QUIET, wheel
from wheelchorus.errors import BadHiding
from wheelchorus.hidingchecks import check_called, check_hear, check_others, check_rounds, check_sort
from wheelchorus.kinds import is_sequence, is_whole_within
from wheelchorus.numbers import length_of
from wheelchorus.spoils import is_foreign, window
from wheelchorus.town import Town

MOST_PULLS = 16
FIRST_OFFSET = -500
LAST_OFFSET = 8000


class Play:
    """One wire with the boxes that are pulled, from an offset on at which all are at rest."""

    def __init__(self, boxes, called, rounds, start):
        self.called = called
        self.now = start
        self.wheels = {number: rested(wheel(number, sort, rounds)) for number, sort in boxes}
        # The offsets at which the wire was broken, as keys; those at which a round of the called box ended.
        self.broken = {}
        self.ends = []

    def tick(self):
        wheels = list(self.wheels.values())
        for box in wheels:
            box.begin()
        is_broken = any([box.breaks for box in wheels])
        if is_broken:
            self.broken[self.now] = True
        for number in self.wheels:
            box = self.wheels[number]
            if box(is_broken) and number == self.called:
                self.ends.append(self.now)
        self.now += 1

    def tick_until(self, offset):
        while self.now < offset:
            self.tick()

    def is_at_rest(self):
        return all([box.standing[0] == 0 for box in self.wheels.values()])

    def pull_all(self, pulls):
        """Plays until all is at rest; the index of the first pull that was not taken, or None."""
        # The pull of the called box has no index in the list.
        timed = [(0, -1, self.called)]
        timed.extend([(offset, index, number) for index, (offset, number) in enumerate(pulls)])
        for offset, index, number in sorted(timed):
            self.tick_until(offset)
            if not self.wheels[number].pull():
                return index
        while not self.is_at_rest():
            self.tick()
        return None


def rested(box):
    """The box as it is behind so many closed ticks that more make no difference."""
    for _ in range(MOST_QUIET):
        box(False)
    return box


def hiding_fault(boxes, number, sort, pulls, *, rounds, hear=1):
    check_called(number)
    check_sort(sort)
    check_others(boxes, number)
    check_rounds(rounds)
    check_hear(hear, rounds)
    if not are_pulls(pulls):
        raise BadHiding("pulls")
    wrong = wrong_pull(boxes, sort, pulls)
    if wrong is not None:
        return "pull", wrong
    names = [name for _, name in pulls]
    taking_part = [(number, sort)] + [(other, other_sort) for other, other_sort in boxes if other in names]
    play = Play(taking_part, number, rounds, min([0] + [offset for offset, _ in pulls]))
    wrong = play.pull_all(pulls)
    if wrong is not None:
        return "pull", wrong
    index = read_round(play, rounds_read(play, sort, rounds), hear)
    return None if index is None else ("round", index)


def are_pulls(thing):
    if not is_sequence(thing) or len(thing) > MOST_PULLS:
        return False
    return all([is_pull(pair) for pair in thing])


def is_pull(thing):
    if not is_sequence(thing) or len(thing) != 2:
        return False
    return is_whole_within(thing[0], FIRST_OFFSET, LAST_OFFSET) and isinstance(thing[1], str)


def wrong_pull(boxes, sort, pulls):
    """The index of the first pull that can be told to be wrong ahead of the play, or None."""
    names = [name for name, _ in boxes]
    # A shy called box is only heard of from its own first tick on.
    least = 1 if sort == Town.SHY else FIRST_OFFSET
    for index, (offset, name) in enumerate(pulls):
        if name not in names or offset < least:
            return index
        least = offset
    return None


def rounds_read(play, sort, rounds):
    """The called box's rounds that are read, as (index, first offset, last offset)."""
    length = length_of(play.called)
    sent = [(index, end - length + 1, end) for index, end in enumerate(play.ends)]
    if sort == Town.SHY:
        return sent
    return [entry for entry in sent if not is_spoilt(play, entry[0], rounds)]


def is_spoilt(play, index, rounds):
    low, high = window(play.called, index)
    broken = [offset for offset in range(low, high + 1) if offset in play.broken]
    return any([is_foreign(play.called, offset, rounds=rounds) for offset in broken])


def read_round(play, entries, hear):
    """The index of the first round that makes the called box heard, or None."""
    if hear == 1:
        return entries[0][0] if len(entries) > 0 else None
    for (index, _, end), (other, start, _) in zip(entries, entries[1:]):
        gap = range(end + 1, start)
        if other == index + 1 and not any([offset in play.broken for offset in gap]):
            return index
    return None

"""Shy boxes among themselves: who waits for whom, and how long [3.12]."""

from wheelchorus.boxes import QUIET_AHEAD
from wheelchorus.numbers import CLOSED_END, first_difference, goes_ahead, length_of


def first_of(numbers):
    """The number that goes ahead of all others."""
    first = numbers[0]
    for number in numbers:
        if goes_ahead(number, first):
            first = number
    return first


def meeting(numbers):
    # Whoever has the same strokes as the first one up to here still turns; all others have stepped back.
    first = first_of(numbers)
    leaves = [None if number == first else first_difference(number, first) for number in numbers]
    return first, tuple(leaves)


class Queue:
    """The numbers that have rounds to send on one wire of shy boxes, and the rounds that came of them."""

    def __init__(self, rounds):
        self.rounds = rounds
        self.left = {}
        self.sent = {}
        self.pulled_at = {}
        self.due = []
        self.closed_from = 0
        self.last = None

    def pull(self, tick, number):
        if self.left.get(number, 0) > 0 or self.is_sending(tick, number):
            return
        self.left[number] = self.rounds
        self.sent[number] = 0
        self.pulled_at[number] = tick

    def is_sending(self, tick, number):
        return number == self.last and tick < self.closed_from + CLOSED_END

    def start_of(self, number):
        """The first tick at which this number could begin its next round, if no other one did before."""
        return max(self.pulled_at[number], self.closed_from + QUIET_AHEAD + self.sent[number])

    def starts(self):
        return {number: self.start_of(number) for number in self.left if self.left[number] > 0}

    def begins_before(self, tick):
        return any([start < tick for start in self.starts().values()])

    def has_rounds(self):
        return len(self.starts()) > 0

    def send_round(self):
        starts = self.starts()
        tick = min(starts.values())
        number = first_of([number for number in starts if starts[number] == tick])
        self.due.append((tick, number))
        self.left[number] -= 1
        self.sent[number] += 1
        self.closed_from = tick + length_of(number) - CLOSED_END
        self.last = number


def due_rounds(rounds, pulls):
    queue = Queue(rounds)
    for tick, number in pulls:
        # A pull at the very tick of a round's beginning still takes part in it.
        while queue.begins_before(tick):
            queue.send_round()
        queue.pull(tick, number)
    while queue.has_rounds():
        queue.send_round()
    return tuple(queue.due)


def most_ticks(rounds, numbers):
    # A row ends in closed ticks, which already count as quiet for the round behind it.
    gap = QUIET_AHEAD - CLOSED_END
    waits = [length_of(number) + gap + sent for number in numbers for sent in range(rounds)]
    return CLOSED_END + sum(waits)

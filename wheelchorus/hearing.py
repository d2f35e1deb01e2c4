"""What the office hears on one tape and on many [4.3], [4.4]."""

from wheelchorus.numbers import CLOSED_END, number_of
from wheelchorus.tapes import Sign


class Ear:
    def __init__(self, hear):
        self._hear = hear
        self._before = None
        # The signs of the piece that has begun with a broken tick and has not ended yet.
        self._signs = []

    @property
    def before(self):
        return self._before

    def __call__(self, sign):
        if sign == Sign.KEY:
            self._signs = []
            self._before = None
            return None
        if sign == Sign.CLOSED and len(self._signs) == 0:
            return None
        self._signs.append(sign)
        if Sign.BROKEN in self._signs[-CLOSED_END:]:
            return None
        return self.end_piece()

    def end_piece(self):
        """The piece has ended with five closed ticks: a round, or an odd piece."""
        number = number_of(self._signs)
        is_alike = number == self._before
        self._signs = []
        self._before = number
        return number if self._hear == 1 or is_alike else None


class Ears:
    def __init__(self, many, hear):
        self._ears = [Ear(hear) for _ in range(many)]

    def __call__(self, signs):
        answers = [ear(sign) for ear, sign in zip(self._ears, signs)]
        return tuple(sorted({number for number in answers if number is not None}))


def heard_on(tape, hear):
    return calls_on((tape,), hear)


def first_heard(tape, hear, number):
    for tick, heard in heard_on(tape, hear):
        if heard == number:
            return tick
    return None


def calls_on(tapes, hear):
    ears = Ears(len(tapes), hear)
    calls = []
    for tick, signs in enumerate(zip(*tapes)):
        calls.extend([(tick, number) for number in ears(signs)])
    return tuple(calls)

"""The desk that has the tapes alone: books from tapes, and their judge [10.9] to [10.11]."""

from wheelchorus.errors import BadDeskDeed, BadSigns, BadTapes, WheelError
from wheelchorus.hearing import Ears
from wheelchorus.kinds import is_sequence, is_whole, is_whole_within
from wheelchorus.room import BACK, CALL, MORE
from wheelchorus.tapes import Sign, is_tape
from wheelchorus.watch import Watch


class TapeDesk:
    def __init__(self, service):
        self.service = service
        self._ears = Ears(2 * len(service.town.loops), service.town.hear)
        self._watch = Watch(service.room)
        self._now = 0
        self._book_rows = []

    def __iter__(self):
        return iter(self._book_rows)

    def __len__(self):
        return len(self._book_rows)

    @property
    def clock(self):
        return self._now

    @property
    def book(self):
        return tuple(self._book_rows)

    @property
    def standing(self):
        return self._watch.standing

    def take(self, near, far):
        many = len(self.service.town.loops)
        if not are_signs(near, many):
            raise BadSigns("near")
        if not are_signs(far, many):
            raise BadSigns("far")
        ears = self._ears
        numbers = ears((*near, *far))
        opened = self._watch.call_each(numbers)
        self._book_rows.extend([(CALL, self._now, number) + told for number, told in opened])
        self._now += 1
        return numbers

    def more(self, number):
        return self.add_row(MORE, number, self._watch.more(number))

    def back(self, number):
        return self.add_row(BACK, number, self._watch.back(number))

    def add_row(self, word, number, told):
        """Writes a row into the book, and returns it."""
        row = (word, self._now, number) + told
        self._book_rows.append(row)
        return row

    def do_deed(self, deed):
        word, number = deed
        return self.more(number) if word == MORE else self.back(number)


def are_signs(thing, many):
    if not is_sequence(thing) or len(thing) != many:
        return False
    return all([is_whole_within(sign, Sign.CLOSED, Sign.KEY) for sign in thing])


def desk_rows(book):
    return tuple([row for row in book if row[0] in (CALL, MORE, BACK)])


def desk_deeds(book):
    return tuple([(row[1], (row[0], row[2])) for row in desk_rows(book) if row[0] != CALL])


def check_tapes(service, tapes):
    many = len(service.town.loops)
    if not is_sequence(tapes) or len(tapes) != many:
        raise BadTapes(many)
    for index, pair in enumerate(tapes):
        # The first tape of loop 0 is known to be a tape when its length is asked for.
        if not is_tape_pair(pair) or not all([len(tape) == len(tapes[0][0]) for tape in pair]):
            raise BadTapes(index)


def is_tape_pair(thing):
    return is_sequence(thing) and len(thing) == 2 and is_tape(thing[0]) and is_tape(thing[1])


def tick_signs(tapes):
    """For each tick the signs of all near and of all far tapes."""
    near = [pair[0] for pair in tapes]
    far = [pair[1] for pair in tapes]
    near_signs = list(zip(*near))
    far_signs = list(zip(*far))
    return list(zip(near_signs, far_signs))


def desk_book(service, tapes, deeds):
    check_tapes(service, tapes)
    check_deeds(deeds, len(tapes[0][0]))
    desk = TapeDesk(service)
    signs = tick_signs(tapes)
    for tick, deed in deeds:
        take_until(desk, signs, tick)
        desk.do_deed(deed)
    take_until(desk, signs, len(signs))
    return desk.book


def take_until(desk, signs, tick):
    while desk.clock < tick:
        near, far = signs[desk.clock]
        desk.take(near, far)


def check_deeds(deeds, ticks):
    earlier = 0
    for index, entry in enumerate(deeds):
        if not is_desk_deed(entry) or not is_whole_within(entry[0], earlier, ticks):
            raise BadDeskDeed(index)
        earlier = entry[0]


def is_desk_deed(thing):
    if not isinstance(thing, tuple) or len(thing) != 2:
        return False
    deed = thing[1]
    return isinstance(deed, tuple) and len(deed) == 2 and deed[0] in (MORE, BACK)


def book_fault(service, tapes, book):
    check_tapes(service, tapes)
    desk = TapeDesk(service)
    at = 0
    for near, far in tick_signs(tapes):
        at, is_wrong = done_rows(desk, book, at)
        if is_wrong:
            return at
        known = len(desk)
        desk.take(near, far)
        for row in desk.book[known:]:
            if at == len(book) or book[at] != row:
                return at
            at += 1
    at, _ = done_rows(desk, book, at)
    return None if at == len(book) else at


def done_rows(desk, book, at):
    """Does the officer's rows that stand next; the index behind them, or that of the first wrong one and True."""
    while at < len(book) and is_officer_row(book[at], desk.clock):
        if not is_done_as(desk, book[at]):
            return at, True
        at += 1
    return at, False


def is_officer_row(thing, tick):
    """Whether this row is to be done by the desk at this tick."""
    if not isinstance(thing, tuple) or len(thing) < 3:
        return False
    return thing[0] in (MORE, BACK) and is_whole(thing[1]) and thing[1] == tick


def is_done_as(desk, row):
    """Does the row's deed; whether the desk can do it and its book gets this very row."""
    try:
        return desk.do_deed((row[0], row[2])) == row
    except WheelError:
        return False

"""Watches: they do the events of a room one by one [8.7]."""

from wheelchorus.cards import Card
from wheelchorus.errors import NoCall, NoPlace, TopGrade
from wheelchorus.kinds import is_whole_within
from wheelchorus.room import BACK, CALL, MORE, OUT, crews_at


class Watch:
    def __init__(self, room):
        self._room = room
        self._now = room.start()

    @property
    def standing(self):
        return self._now

    def grade(self, number):
        return self._room.grade_in(self._now, number) if number in self._room.numbers else 0

    def out_to(self, number):
        places, _ = self._now
        return tuple(crews_at(places, (OUT, number)))

    def place(self, crew):
        places, _ = self._now
        if not is_whole_within(crew, 0, len(places) - 1):
            raise NoPlace(crew)
        return places[crew]

    def call(self, number):
        # A number that is heard need not have a card.
        return self.do_event(CALL, number) if number in self._room.numbers else None

    def call_each(self, numbers):
        """Calls these numbers in order; each number that this opens, with what the call told."""
        opened = []
        for number in numbers:
            told = self.call(number)
            if told is not None:
                opened.append((number, told))
        return opened

    def more(self, number):
        self.check_open(number)
        if self.grade(number) == Card.GRADES:
            raise TopGrade(number)
        return self.do_event(MORE, number)

    def back(self, number):
        self.check_open(number)
        return self.do_event(BACK, number)

    def check_open(self, number):
        if self.grade(number) == 0:
            raise NoCall(number)

    def do_event(self, word, number):
        """Does the event, and returns what it tells."""
        self._now, told = self._room.step(self._now, (word, number))
        return told

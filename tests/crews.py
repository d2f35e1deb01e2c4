"""Plain second reckonings of rooms: crews one by one, and rows of events tried one after the other."""

from wheelchorus.cards import Card
from wheelchorus.room import Room


class PlainRoom:
    """A room crew by crew, as [8.4] to [8.6] tell it. Cards are read off the Card objects alone."""

    def __init__(self, room):
        self.cards = {card.number: card for card in room.cards}
        self.own = list(room.stations)
        self.station = list(room.stations)
        self.out = [None for _ in room.stations]
        self.grades = {card.number: 0 for card in room.cards}

    def copied(self):
        fresh = PlainRoom.__new__(PlainRoom)
        fresh.cards, fresh.own = self.cards, self.own
        fresh.station, fresh.out, fresh.grades = list(self.station), list(self.out), dict(self.grades)
        return fresh

    def standing(self):
        places = tuple(("in", self.station[k]) if self.out[k] is None else ("out", self.out[k])
                       for k in range(len(self.own)))
        return places, tuple(self.grades.values())

    def crews_in(self, station):
        return [k for k in range(len(self.own)) if self.out[k] is None and self.station[k] == station]

    def allowed(self, most_open):
        many = sum(grade > 0 for grade in self.grades.values())
        events = []
        for number, grade in self.grades.items():
            if grade == 0:
                events += [("call", number)] if many < most_open else []
            else:
                events += [("more", number)] if grade < 3 else []
                events += [("back", number)]
        return tuple(events)

    def do(self, event):
        word, number = event
        if word == "back":
            return self.back(number)
        if word == "call" and self.grades[number]:
            return None
        self.grades[number] += 1
        return self.go_out(self.cards[number], self.grades[number])

    def go_out(self, card, grade):
        went = []
        for crew in card.order:
            if len(went) < card.counts[grade - 1] and self.out[crew] is None:
                went.append(crew)
        for crew in went:
            self.out[crew] = card.number
        moved = []
        for crew, station in card.moves:
            if not self.crews_in(station) and self.out[crew] is None and len(self.crews_in(self.station[crew])) >= 2:
                self.station[crew] = station
                moved.append((crew, station))
        return grade, tuple(went), tuple(moved), max(0, card.owed[grade - 1] - self.out.count(card.number))

    def back(self, number):
        returned = [crew for crew in range(len(self.own)) if self.out[crew] == number]
        for crew in returned:
            self.out[crew], self.station[crew] = None, self.own[crew]
        home = []
        for crew in range(len(self.own)):
            at = self.station[crew]
            if self.out[crew] is None and at != self.own[crew]:
                if any(self.own[other] == at for other in self.crews_in(at)):
                    self.station[crew] = self.own[crew]
                    home.append(crew)
        self.grades[number] = 0
        return tuple(returned), tuple(home)


def is_short(event, told):
    return event[0] != "back" and told[3] > 0


def tried_rows(room, most_open):
    """All allowed rows, in order, as (row, model behind it, whether each event makes its number short).

    It ends with the first length at which no row leads to a standing not met before, so that all is met by then.
    """
    level = [((), PlainRoom(room), ())]
    met = {level[0][1].standing()}
    found = list(level)
    while True:
        longer = []
        for row, model, shorts in level:
            for event in model.allowed(most_open):
                after = model.copied()
                told = after.do(event)
                longer.append((row + (event,), after, shorts + (is_short(event, told),)))
        found += longer
        fresh = {model.standing() for _, model, _ in longer} - met
        if not fresh:
            return found
        met |= fresh
        level = longer


def judged(rows):
    """(table, events) of [8.9], from all rows."""
    for row, _, shorts in rows:
        if row and shorts[-1] and not any(shorts[:-1]):
            return None, row
    return tuple(dict.fromkeys(model.standing() for _, model, _ in rows)), None


def some_card(chance, number, stations, most_crews=6):
    crews = range(len(stations))
    order = chance.sample(crews, chance.randint(0, min(most_crews, len(stations))))
    counts = [chance.choice((0, 1, 1, 2, 3, 6)) for _ in range(3)]
    owed = [chance.choice((0, 0, 0, 1, 1, 2, 6)) for _ in range(3)]
    moves = [(chance.choice(crews), chance.choice(stations)) for _ in range(chance.choice((0, 1, 6, 6)))]
    return Card(number, order, counts=counts, owed=owed, moves=moves)


def some_room(chance, most_crews=6, numbers=("24", "3", "111", "5", "12", "9")):
    # Several crews at one station leave some to stand in at others.
    stations = [chance.choice((0, 0, 0, 1, 2, 8)) for _ in range(chance.choice((1, most_crews // 2, most_crews)))]
    many = chance.randint(0, len(numbers))
    return Room(stations, [some_card(chance, number, stations) for number in chance.sample(numbers, many)])


def small_room(chance):
    """A room so small that all rows can be tried."""
    if chance.random() < 0.7:
        return some_room(chance, 3, ("24", "3")[:chance.choice((1, 1, 2))])
    # Crews that are owed late alone make the least rows long.
    stations = [chance.choice((0, 1)) for _ in range(3)]
    cards = [Card(number, chance.sample(range(3), 2), counts=[chance.choice((0, 1)) for _ in range(3)],
                  owed=(0, 0, chance.choice((0, 1, 1, 2)))) for number in ("24", "3")]
    return Room(stations, cards)

"""Rooms: stations, crews and cards, standings, and what events do [8.3] to [8.6], [8.8]."""

from wheelchorus.cards import Card, is_stations
from wheelchorus.errors import BadStations, CardTwice, NoCard, NoCrew, NoStation

IN = "in"
OUT = "out"
CALL = "call"
MORE = "more"
BACK = "back"


class Room:
    def __init__(self, stations, cards):
        if not is_stations(stations):
            raise BadStations(stations)
        for card in cards:
            check_card(card, stations)
        self.stations = tuple(stations)
        self.cards = tuple(cards)
        self.numbers = tuple([card.number for card in cards])
        for index, number in enumerate(self.numbers):
            if number in self.numbers[:index]:
                raise CardTwice(number)

    def start(self):
        return tuple([(IN, station) for station in self.stations]), (0,) * len(self.cards)

    def card_of(self, number):
        return self.cards[self.card_index(number)]

    def card_index(self, number):
        if number not in self.numbers:
            raise NoCard(number)
        return self.numbers.index(number)

    def grade_in(self, standing, number):
        _, grades = standing
        return grades[self.card_index(number)]

    def allowed(self, standing, most_open):
        _, grades = standing
        events = []
        for number, grade in zip(self.numbers, grades):
            if grade == 0 and open_count(grades) < most_open:
                events.append((CALL, number))
            if 0 < grade < Card.GRADES:
                events.append((MORE, number))
            if grade > 0:
                events.append((BACK, number))
        return tuple(events)

    def step(self, standing, event):
        word, number = event
        if word == BACK:
            return self.close(standing, number)
        grade = self.grade_in(standing, number)
        if word == CALL and grade > 0:
            return standing, None
        return self.lift(standing, number, grade + 1)

    def lift(self, standing, number, grade):
        """Opens the number, or raises it, to this grade."""
        card = self.card_of(number)
        places = list(standing[0])
        free = [crew for crew in card.order if places[crew][0] == IN]
        went = free[:card.counts[grade - 1]]
        for crew in went:
            places[crew] = (OUT, number)
        moved = []
        for crew, station in card.moves:
            if can_move(places, crew, station):
                places[crew] = (IN, station)
                moved.append((crew, station))
        short_by = max(0, card.owed[grade - 1] - len(crews_at(places, (OUT, number))))
        told = (grade, tuple(went), tuple(moved), short_by)
        return self.with_grade(standing, places, number, grade), told

    def close(self, standing, number):
        places = list(standing[0])
        returned = crews_at(places, (OUT, number))
        for crew in returned:
            places[crew] = (IN, self.stations[crew])
        home = []
        for crew, station in enumerate(self.stations):
            if self.can_go_home(places, crew):
                places[crew] = (IN, station)
                home.append(crew)
        return self.with_grade(standing, places, number, 0), (tuple(returned), tuple(home))

    def with_grade(self, standing, places, number, grade):
        grades = list(standing[1])
        grades[self.card_index(number)] = grade
        return tuple(places), tuple(grades)

    def can_go_home(self, places, crew):
        """Whether this crew is in at a foreign station at which a crew is in whose own station it is."""
        word, station = places[crew]
        if word != IN or station == self.stations[crew]:
            return False
        return any([self.stations[other] == station for other in crews_at(places, (IN, station))])

    def with_card(self, card):
        index = self.card_index(card.number)
        return Room(self.stations, (*self.cards[:index], card, *self.cards[index + 1:]))


def check_card(card, stations):
    for crew in card.order:
        check_crew(card, crew, stations)
    for crew, station in card.moves:
        check_crew(card, crew, stations)
        if station not in stations:
            raise NoStation(card.number, station)


def check_crew(card, crew, stations):
    if crew >= len(stations):
        raise NoCrew(card.number, crew)


def crews_at(places, wanted):
    """The crews that are at this place, ascending."""
    return [crew for crew, place in enumerate(places) if place == wanted]


def can_move(places, crew, station):
    """Whether the crew may cover a station that nobody is in at, without leaving its own one bare."""
    if len(crews_at(places, (IN, station))) > 0 or places[crew][0] != IN:
        return False
    return len(crews_at(places, places[crew])) > 1


def open_count(grades):
    """How many numbers are open."""
    return len([grade for grade in grades if grade > 0])

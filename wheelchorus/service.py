"""Services: a town with its houses, its crews and some permissions [9.1], [9.2]."""

from wheelchorus.cards import card_text
from wheelchorus.errors import BadService, NoHouse
from wheelchorus.house import House
from wheelchorus.kinds import is_sequence, is_whole_within
from wheelchorus.room import Room

MOST_PULLS = 99
MOST_OPEN = 6


class Service:
    def __init__(
        self, town, *, houses=(), stations=(0,), cards=(), cutting=False, joining=False, most=0, most_open=1
    ):
        if not are_houses(houses, town):
            raise BadService("houses")
        if not isinstance(cutting, bool):
            raise BadService("cutting")
        if not isinstance(joining, bool):
            raise BadService("joining")
        if not is_whole_within(most, 0, MOST_PULLS):
            raise BadService("most")
        if not is_whole_within(most_open, 1, MOST_OPEN):
            raise BadService("most_open")
        self.room = Room(stations, cards)
        if not all([number in town.numbers for number in self.room.numbers]):
            raise BadService("cards")
        self.town = town
        self.houses = tuple(houses)
        self.stations = self.room.stations
        self.cards = self.room.cards
        self.cutting = cutting
        self.joining = joining
        self.most = most
        self.most_open = most_open
        self.wires = wires_of(town, joining)
        self.key = cutting or joining
        # Told once, since no card changes: == compares what is there, and calls nothing.
        self.card_texts = tuple([card_text(card) for card in self.cards])

    def __eq__(self, other):
        return (
            isinstance(other, Service)
            and self.town == other.town
            and self.houses == other.houses
            and self.stations == other.stations
            and self.card_texts == other.card_texts
            and self.cutting == other.cutting
            and self.joining == other.joining
            and self.most == other.most
            and self.most_open == other.most_open
        )

    def house_of(self, box):
        for house in self.houses:
            if house.box == box:
                return house
        raise NoHouse(box)

    def with_parts(self, **more):
        parts = self.parts()
        for name in more:
            if name not in parts:
                raise BadService(name)
        parts.update(more)
        return Service(**parts)

    def parts(self):
        """All arguments by their names."""
        return {
            "town": self.town,
            "houses": self.houses,
            "stations": self.stations,
            "cards": self.cards,
            "cutting": self.cutting,
            "joining": self.joining,
            "most": self.most,
            "most_open": self.most_open,
        }


def are_houses(thing, town):
    """Whether these are houses, each of another box of the town."""
    if not is_sequence(thing) or not all([isinstance(house, House) for house in thing]):
        return False
    boxes = [house.box for house in thing]
    return all([box in town.numbers for box in boxes]) and len(set(boxes)) == len(boxes)


def wires_of(town, joining):
    if joining:
        return (town.wire(),)
    return tuple([town.wire(loop) for loop in range(len(town.loops))])

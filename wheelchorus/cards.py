"""Stations, cards, and their texts [8.1], [8.2], [8.13]."""

from wheelchorus.errors import BadCard, BadCardText
from wheelchorus.kinds import is_digit, is_sequence, is_whole_within
from wheelchorus.numbers import is_number

MOST_CREWS = 6
LAST_CREW = 5
LAST_STATION = 8
MOST_MOVES = 6
EMPTY = "-"


class Card:
    GRADES = 3

    def __init__(self, number, order, *, counts, owed=(0, 0, 0), moves=()):
        if not is_number(number):
            raise BadCard("number")
        if not is_order(order):
            raise BadCard("order")
        if not are_counts(counts):
            raise BadCard("counts")
        if not are_counts(owed):
            raise BadCard("owed")
        if not are_moves(moves):
            raise BadCard("moves")
        self.number = number
        self.order = tuple(order)
        self.counts = tuple(counts)
        self.owed = tuple(owed)
        self.moves = tuple([tuple(move) for move in moves])


def is_stations(thing):
    if not is_sequence(thing) or not 1 <= len(thing) <= MOST_CREWS:
        return False
    return all([is_station(station) for station in thing])


def is_station(thing):
    return is_whole_within(thing, 0, LAST_STATION)


def is_crew(thing):
    return is_whole_within(thing, 0, LAST_CREW)


def is_order(thing):
    if not is_sequence(thing) or not all([is_crew(crew) for crew in thing]):
        return False
    # There are just six different ones, so there cannot be more of them.
    return len(set(thing)) == len(thing)


def are_counts(thing):
    if not is_sequence(thing) or len(thing) != Card.GRADES:
        return False
    return all([is_whole_within(count, 0, MOST_CREWS) for count in thing])


def are_moves(thing):
    if not is_sequence(thing) or len(thing) > MOST_MOVES:
        return False
    return all([is_move(move) for move in thing])


def is_move(thing):
    return is_sequence(thing) and len(thing) == 2 and is_crew(thing[0]) and is_station(thing[1])


def card_text(card):
    crews = joined(card.order) if len(card.order) > 0 else EMPTY
    parts = [crews, joined(card.counts), joined(card.owed)]
    parts.extend([f"{crew}>{station}" for crew, station in card.moves])
    return f"{card.number}: " + " / ".join(parts)


def joined(wholes):
    return " ".join([str(whole) for whole in wholes])


def read_card(text):
    if not isinstance(text, str):
        raise BadCardText(text)
    number, _, rest = text.partition(": ")
    parts = rest.split(" / ")
    if len(parts) < 3:
        raise BadCardText(text)
    order = [] if parts[0] == EMPTY else digits_in(parts[0], " ")
    moves = [digits_in(part, ">") for part in parts[3:]]
    try:
        return Card(number, order, counts=digits_in(parts[1], " "), owed=digits_in(parts[2], " "), moves=moves)
    except BadCard as wrong:
        raise BadCardText(text) from wrong


def digits_in(text, separator):
    """The digits between the separators; None stands for each piece that is no digit."""
    return [int(word) if is_digit(word) else None for word in text.split(separator)]

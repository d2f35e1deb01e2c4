"""Changes of a service, done at once [10.1] to [10.3]."""

from wheelchorus.cards import Card, are_counts, is_order
from wheelchorus.errors import BadChange, CannotBe, WheelError
from wheelchorus.house import House
from wheelchorus.kinds import is_sequence, is_whole_within
from wheelchorus.numbers import is_number
from wheelchorus.ring import MOST_SIGNS, is_ring_text
from wheelchorus.town import MOST_ROUNDS, Town, is_sort

# What these words change is the town's, so that no number stands behind them.
TOWN_WORDS = ("hear", "rounds")
BOX_WORDS = ("sort", "number")
CARD_WORDS = ("order", "counts")
HOUSE_WORDS = ("ring", "need")


def change_thing(change):
    return (change[0],) if change[0] in TOWN_WORDS else (change[0], change[1])


def is_change(service, thing):
    if not is_sequence(thing) or len(thing) == 0:
        return False
    word = thing[0]
    if word in TOWN_WORDS:
        return len(thing) == 2 and is_worth(word, thing[1])
    return len(thing) == 3 and thing[1] in numbers_for(service, word) and is_worth(word, thing[2])


def numbers_for(service, word):
    """The numbers that may stand behind this word; none behind any object that is no such word."""
    if word in BOX_WORDS:
        return service.town.numbers
    if word in CARD_WORDS:
        return service.room.numbers
    if word in HOUSE_WORDS:
        return [house.box for house in service.houses]
    return ()


def is_worth(word, thing):
    """Whether this may stand at the end of a change that begins with this word."""
    if word == "sort":
        return is_sort(thing)
    if word == "number":
        return is_number(thing)
    if word == "hear":
        return is_whole_within(thing, 1, 2)
    if word == "rounds":
        return is_whole_within(thing, 1, MOST_ROUNDS)
    if word == "order":
        return is_order(thing)
    if word == "counts":
        return are_counts(thing)
    if word == "ring":
        return is_ring_text(thing)
    # A need of more seekers than a ring can have is no change at all.
    return is_whole_within(thing, 1, MOST_SIGNS)


def changed(service, changes):
    for index, change in enumerate(changes):
        if not is_change(service, change):
            raise BadChange(index)
    worths = {change_thing(change): change[-1] for change in changes}
    if len(worths) < len(changes):
        raise CannotBe("twice")
    try:
        return made(service, worths)
    except WheelError as wrong:
        raise CannotBe("together") from wrong


def made(service, worths):
    """The service in which each thing has the worth that it is given here."""
    town = made_town(service.town, worths)
    houses = [made_house(house, worths) for house in service.houses]
    cards = [made_card(card, worths) for card in service.cards]
    return service.with_parts(town=town, houses=houses, cards=cards)


def new_number(number, worths):
    return worths.get(("number", number), number)


def made_town(town, worths):
    loops = []
    for loop in town.loops:
        loops.append([(new_number(number, worths), worths.get(("sort", number), sort)) for number, sort in loop])
    return Town(loops, rounds=worths.get(("rounds",), town.rounds), hear=worths.get(("hear",), town.hear))


def made_house(house, worths):
    return House(
        new_number(house.box, worths),
        worths.get(("ring", house.box), house.ring),
        mark=house.mark,
        rows=house.rows,
        need=worths.get(("need", house.box), house.need),
    )


def made_card(card, worths):
    number = card.number
    return Card(
        new_number(number, worths),
        worths.get(("order", number), card.order),
        counts=worths.get(("counts", number), card.counts),
        owed=card.owed,
        moves=card.moves,
    )

"""How soon a service comes to rest, and how far it is from failing [9.10], [9.15]."""

from wheelchorus.hiding import hidden, others_of
from wheelchorus.line import KEY_TICKS
from wheelchorus.numbers import length_of
from wheelchorus.orders import judge_orders
from wheelchorus.service import MOST_OPEN
from wheelchorus.town import Town
from wheelchorus.waiting import most_ticks


def rest_within(service):
    return max([rest_ticks(wire, service.town.rounds) for wire in service.wires])


def rest_ticks(boxes, rounds):
    """So many ticks behind the last pull, these boxes alone on one wire are at rest."""
    longest = max([length_of(number) for number, sort in boxes if sort == Town.PLAIN], default=0)
    shy = [number for number, sort in boxes if sort == Town.SHY]
    return max(KEY_TICKS, rounds * longest) + most_ticks(rounds, shy)


def fewest_pulls(town, wire, number, sort):
    """The fewest pulls that hide this box of the wire; None if none do."""
    hiding = hidden(others_of(wire, number), number, sort, rounds=town.rounds, hear=town.hear)
    return None if hiding is None else len(hiding)


def greatest_most(service):
    counts = [fewest_pulls(service.town, wire, number, sort) for wire in service.wires for number, sort in wire]
    fewest = min([count for count in counts if count is not None], default=None)
    return None if fewest is None else fewest - 1


def greatest_open(service):
    for most_open in range(1, MOST_OPEN + 1):
        if not judge_orders(service.room, most_open=most_open).is_safe:
            return most_open - 1
    return MOST_OPEN


def warning_after(service):
    return tuple([(house.box, house.rows, house.need * house.rows) for house in service.houses])

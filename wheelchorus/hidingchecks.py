"""The checks of the arguments of hiding, each with its word [6.2]."""

from wheelchorus.errors import BadHiding
from wheelchorus.kinds import is_whole_within
from wheelchorus.numbers import is_number
from wheelchorus.town import MOST_ROUNDS, are_boxes, is_sort

# A wire of three whole loops has so many boxes; the called box is one of them.
MOST_ON_WIRE = 30


def check_called(number):
    if not is_number(number):
        raise BadHiding("number")


def check_sort(sort):
    if not is_sort(sort):
        raise BadHiding("sort")


def check_other(other, number):
    if not is_number(other) or other == number:
        raise BadHiding("other")


def check_others(boxes, number):
    if not are_boxes(boxes, 0, MOST_ON_WIRE - 1) or number in [other for other, _ in boxes]:
        raise BadHiding("boxes")


def check_wire(boxes):
    if not are_boxes(boxes, 1, MOST_ON_WIRE):
        raise BadHiding("boxes")


def check_rounds(rounds):
    if not is_whole_within(rounds, 1, MOST_ROUNDS):
        raise BadHiding("rounds")


def check_hear(hear, rounds):
    if not is_whole_within(hear, 1, 2) or hear > rounds:
        raise BadHiding("hear")

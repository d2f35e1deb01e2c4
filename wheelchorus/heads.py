"""Where shy boxes step back, and their heads [2.4]."""

from wheelchorus.numbers import first_difference, length_of
from wheelchorus.rows import Strokes, strokes_of


def step_back(number, pattern):
    length = length_of(number)
    return (pattern.cut(length) - strokes_of(number)).lowest


def head_of(number, pattern):
    strokes = strokes_of(number)
    end = step_back(number, pattern)
    head = strokes if end is None else strokes.cut(end)
    return head if head.within(pattern) else Strokes()


def shared(one, other):
    return first_difference(one, other)

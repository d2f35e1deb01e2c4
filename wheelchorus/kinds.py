"""Kinds of values that several modules ask for."""


def is_whole(thing):
    # True and False are ints of Python, but no whole numbers here [0.2].
    return isinstance(thing, int) and not isinstance(thing, bool)


def is_whole_within(thing, low, high):
    return is_whole(thing) and low <= thing <= high


def is_sequence(thing):
    return isinstance(thing, (list, tuple))

"""Kinds of values that several modules ask for."""


def is_whole(thing):
    # True and False are ints of Python, but no whole numbers here [0.2].
    return isinstance(thing, int) and not isinstance(thing, bool)


def is_whole_within(thing, low, high):
    return is_whole(thing) and low <= thing <= high


def is_sequence(thing):
    return isinstance(thing, (list, tuple))


def is_digit(word):
    return len(word) == 1 and word in "0123456789"


def copy_of(thing):
    """The same value, in which each list and each dict is a new one [0.3]."""
    if isinstance(thing, list):
        return [copy_of(part) for part in thing]
    if isinstance(thing, tuple):
        return tuple([copy_of(part) for part in thing])
    if isinstance(thing, dict):
        return {key: copy_of(thing[key]) for key in thing}
    return thing

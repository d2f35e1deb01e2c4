"""Tapes and their pieces [4.1], [4.2]."""

from wheelchorus.kinds import is_whole_within
from wheelchorus.numbers import CLOSED_END, length_of, number_of

MOST_SIGNS = 3000


class Sign:
    CLOSED = 0
    BROKEN = 1
    KEY = 2


def is_tape(thing):
    if not isinstance(thing, tuple) or len(thing) > MOST_SIGNS:
        return False
    return all([is_whole_within(sign, Sign.CLOSED, Sign.KEY) for sign in thing])


def walk_pieces(tape):
    at = 0
    while at < len(tape):
        end = piece_end(tape, at)
        yield at, piece_between(tape, at, end)
        at = end


def piece_end(tape, at):
    """The index behind the piece that begins at this index."""
    if tape[at] != Sign.BROKEN:
        return run_end(tape, at)
    closed = 0
    end = at
    while end < len(tape) and tape[end] != Sign.KEY and closed < CLOSED_END:
        closed = closed + 1 if tape[end] == Sign.CLOSED else 0
        end += 1
    return end


def run_end(tape, at):
    end = at
    while end < len(tape) and tape[end] == tape[at]:
        end += 1
    return end


def piece_between(tape, at, end):
    many = end - at
    if tape[at] == Sign.KEY:
        return "key", many
    if tape[at] == Sign.CLOSED:
        return "quiet", many
    signs = tape[at:end]
    if Sign.BROKEN in signs[-CLOSED_END:]:
        return ("begun", many) if end == len(tape) else ("spoilt", many)
    number = number_of(signs)
    return ("odd", many) if number is None else ("round", number)


def pieces(tape):
    return tuple([piece for _, piece in walk_pieces(tape)])


def piece_ticks(piece):
    word, worth = piece
    return length_of(worth) if word == "round" else worth


def rounds_on(tape):
    found = []
    for at, piece in walk_pieces(tape):
        if piece[0] == "round":
            found.append((at + piece_ticks(piece) - 1, piece[1]))
    return tuple(found)

"""Plain second reckonings of hiding: strokes laid upon one another, and pulls played on a plain line."""

from tests import plain
from wheelchorus.town import Town

# A line is closed for so many ticks ahead of the first pull.
REST = 16


def window(number, index):
    length = len(plain.row(number))
    return range(index * length - 5, (index + 1) * length)


def shy_end(number, other, at, rounds):
    """The offset at which a shy box that begins at this offset steps back, or the end of its round."""
    called = plain.train(number, 0, rounds)
    own = plain.train(other, at, 1)
    end = at + len(plain.row(other))
    return min([offset for offset in range(at, end) if offset in called - own], default=end)


def given(number, other, sort, at, rounds):
    if sort == "plain":
        return plain.train(other, at, rounds)
    end = shy_end(number, other, at, rounds)
    return {offset for offset in plain.train(other, at, 1) if offset < end}


def spoilt(number, other, sort, at, rounds):
    foreign = given(number, other, sort, at, rounds) - plain.train(number, 0, rounds)
    return tuple(index for index in range(rounds) if foreign & set(window(number, index)))


def most_spoilt(number, other, sort, rounds):
    length, other_length = len(plain.row(number)), len(plain.row(other))
    if sort == "plain":
        return (rounds * other_length - 2) // length + 2, length - 1
    counts = {at: len(spoilt(number, other, sort, at, rounds)) for at in range(1 - other_length, 1)}
    count = max(counts.values())
    return count, max(at for at in counts if counts[at] == count)


def ceiling(one, other):
    return one // other + (1 if one % other else 0)


def fewest(table, rounds, hear):
    """[6.6], word by word."""
    q = max([row[2] for row in table if row[1] == "plain"], default=None)
    m = max([row[2] for row in table if row[1] == "shy"], default=None)
    ways = []
    if hear == 1:
        if q is not None:
            ways.append(ceiling(rounds, q))
        if m is not None and m >= rounds:
            ways.append(1)
        elif m is not None and q is not None:
            ways.append(1 + ceiling(rounds - m, q))
    else:
        if q is not None:
            ways.append(ceiling(rounds - 1, q + 1))
        if m is not None and m >= rounds - 1:
            ways.append(1)
        elif m is not None and q is not None:
            ways.append(1 + ceiling(rounds - m - 1, q + 1))
    return min(ways, default=None)


class Played:
    """What came of a pull of the called box at offset 0 and of others, on a line that was at rest."""

    def __init__(self, boxes, number, sort, pulls, rounds):
        names = {name for _, name in pulls}
        # Boxes that nobody pulls play no part; a loop holds the others.
        wire = [(number, sort)] + [box for box in boxes if box[0] in names]
        line = plain.PlainLine(Town([wire], rounds=rounds))
        start = min([0] + [at for at, _ in pulls])
        waiting = sorted([(at, index, name) for index, (at, name) in enumerate(pulls)] + [(0, -1, number)])
        self.refused = []
        self.called_ends = []
        while waiting or any(line.standing(name)[0] for name, _ in wire):
            offset = line.clock - REST + start
            while waiting and waiting[0][0] == offset:
                _, index, name = waiting.pop(0)
                if not line.do(("pull", name)):
                    self.refused.append(index)
            if number in line.tick():
                self.called_ends.append(offset)
        signs = line.tapes[0][0]
        self.broken = {tick - REST + start for tick, sign in enumerate(signs) if sign}

    def read(self, number, sort, rounds):
        """The rounds of the called box that are read, each with the offsets from its first to its last tick."""
        length = len(plain.row(number))
        own = plain.train(number, 0, rounds)
        found = {}
        for index, end in enumerate(self.called_ends):
            if sort == "shy" or not (self.broken - own) & set(window(number, index)):
                found[index] = range(end - length + 1, end + 1)
        return found


def hiding_fault(boxes, number, sort, pulls, rounds, hear):
    """[6.9], for pulls that are of the right kind."""
    names = [name for name, _ in boxes]
    for index, (at, name) in enumerate(pulls):
        if name not in names or index and at < pulls[index - 1][0] or sort == "shy" and at < 1:
            return "pull", index
    played = Played(boxes, number, sort, pulls, rounds)
    if played.refused:
        return "pull", min(played.refused)
    read = played.read(number, sort, rounds)
    for index in sorted(read):
        if hear == 1:
            return "round", index
        if index + 1 in read and not played.broken & set(range(read[index].stop, read[index + 1].start)):
            return "round", index
    return None

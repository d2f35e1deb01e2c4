"""All orders of events: what they can make short, leave out, bare or idle [8.8] to [8.10]."""

from wheelchorus.errors import TooManyStandings
from wheelchorus.room import BACK, IN, OUT, crews_at

MOST_STANDINGS = 3000


class Orders:
    """The judgement of all orders: the table of all reached standings, or a row that makes a number short."""

    def __init__(self, table, events):
        self.table = table
        self.events = events

    @property
    def is_safe(self):
        return self.events is None


class Reach:
    """The standings that allowed rows lead to, met in the order of their least rows."""

    def __init__(self, room, most_open):
        self.room = room
        self.most_open = most_open
        self.met = [room.start()]
        # For each standing the standing and the event from which it was met first.
        self.sources = {room.start(): None}

    def steps_from(self, standing):
        """All (event, standing behind it, what it tells) that are allowed from this standing, in order."""
        events = self.room.allowed(standing, self.most_open)
        return [(event,) + self.room.step(standing, event) for event in events]

    def meet(self, standing, event, after):
        if after in self.sources:
            return
        if len(self.met) == MOST_STANDINGS:
            raise TooManyStandings(MOST_STANDINGS)
        self.met.append(after)
        self.sources[after] = (standing, event)

    def row_to(self, standing):
        """The least row that leads to this standing."""
        events = []
        source = self.sources[standing]
        while source is not None:
            before, event = source
            events.append(event)
            source = self.sources[before]
        return tuple(events[::-1])


def makes_short(event, told):
    """Whether an allowed event that tells this makes its number short."""
    return event[0] != BACK and told[-1] > 0


def judge_orders(room, *, most_open):
    reach = Reach(room, most_open)
    at = 0
    while at < len(reach.met):
        standing = reach.met[at]
        for event, after, told in reach.steps_from(standing):
            if makes_short(event, told):
                return Orders(None, (*reach.row_to(standing), event))
            reach.meet(standing, event, after)
        at += 1
    return Orders(tuple(reach.met), None)


def walk_all(reach):
    """Meets all standings; all steps as (standing, event, standing behind it), in the order of their least rows."""
    steps = []
    at = 0
    while at < len(reach.met):
        standing = reach.met[at]
        for event, after, _ in reach.steps_from(standing):
            reach.meet(standing, event, after)
            steps.append((standing, event, after))
        at += 1
    return steps


def least_out(room, *, most_open):
    reach = Reach(room, most_open)
    found = {}
    for standing, event, after in walk_all(reach):
        word, number = event
        if word == BACK:
            continue
        key = (room.card_index(number), room.grade_in(after, number))
        count = len(crews_at(after[0], (OUT, number)))
        if key not in found or count < found[key][0]:
            found[key] = (count, standing, event)
    rows = []
    for index, grade in sorted(found):
        count, standing, event = found[(index, grade)]
        rows.append((room.numbers[index], grade, count, (*reach.row_to(standing), event)))
    return tuple(rows)


def bare_rows(room, *, most_open):
    reach = Reach(room, most_open)
    walk_all(reach)
    rows = []
    for station in sorted(set(room.stations)):
        bare = [standing for standing in reach.met if len(crews_at(standing[0], (IN, station))) == 0]
        rows.append((station, reach.row_to(bare[0]) if len(bare) > 0 else None))
    return tuple(rows)


def idle_crews(room, *, most_open):
    reach = Reach(room, most_open)
    walk_all(reach)
    crews = range(len(room.stations))
    return tuple([crew for crew in crews if all([places[crew][0] == IN for places, _ in reach.met])])

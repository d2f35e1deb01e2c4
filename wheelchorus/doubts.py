"""What stands ahead of a round, doubts about it, and sure calls [10.12] to [10.14]."""

from wheelchorus.boxes import QUIET_AHEAD
from wheelchorus.covers import Cover, search
from wheelchorus.errors import BadCase, NoLoop
from wheelchorus.hearing import calls_on, heard_on
from wheelchorus.hiding import others_of
from wheelchorus.kinds import is_whole_within
from wheelchorus.lays import KEY, QUIET, TRAIN
from wheelchorus.numbers import CLOSED_END, check_number
from wheelchorus.question import Question
from wheelchorus.readable import Reading, Safe
from wheelchorus.tapedesk import check_tapes
from wheelchorus.tapes import Sign, piece_ticks, walk_pieces
from wheelchorus.town import Town

SHORT = "short"


def rounds_ahead(tape):
    found = []
    for at, piece in walk_pieces(tape):
        if piece[0] == "round":
            closed = closed_ahead(tape, at)
            word = word_ahead(tape, at, closed)
            found.append((at + piece_ticks(piece) - 1, piece[1], word, closed))
    return tuple(found)


def closed_ahead(tape, at):
    """How many closed ticks stand side by side right ahead of this sign."""
    first = at
    while first > 0 and tape[first - 1] == Sign.CLOSED:
        first -= 1
    return at - first


def word_ahead(tape, at, closed):
    if closed >= QUIET_AHEAD:
        return QUIET
    # The tape may begin with the closed ticks.
    sign = tape[at - closed - 1] if closed < at else None
    if sign == Sign.KEY and closed <= CLOSED_END:
        return KEY
    if sign == Sign.BROKEN and closed == CLOSED_END:
        return TRAIN
    return SHORT


def doubt(service, loop, number, ahead):
    town = service.town
    if not is_whole_within(loop, 0, len(town.loops) - 1):
        raise NoLoop(loop)
    check_number(number)
    if ahead not in (QUIET, TRAIN, KEY, SHORT):
        raise BadCase(ahead)
    boxes = others_of(town.wire(None if service.joining else loop), number)
    case = ahead
    if ahead == SHORT:
        # The wire was not quiet for so long that a shy box could begin, and no train has so long a gap.
        case = QUIET
        boxes = [box for box in boxes if box[1] == Town.PLAIN]
    answer = search(Question(number, boxes, rounds=town.rounds, case=case))
    if isinstance(answer, Cover):
        return Reading(number, town.rounds, "once", case, answer.lay_facts)
    return Safe(number, ((1, case, False, answer),))


class Doubter:
    """Asks doubts about the rounds of one service, each only once."""

    def __init__(self, service):
        self.service = service
        self.known = {}

    def is_sure(self, loop, entry):
        """Whether an entry of rounds_ahead of a tape of this loop is sure."""
        _, number, ahead, _ = entry
        # All loops have one wire if they may be joined.
        key = (0 if self.service.joining else loop, number, ahead)
        if key not in self.known:
            self.known[key] = doubt(self.service, loop, number, ahead).is_safe
        return self.known[key]


class HeardTape:
    """A tape of one loop, with its rounds and what is heard on it."""

    def __init__(self, loop, tape, hear):
        self.loop = loop
        self.hear = hear
        self.rounds = rounds_ahead(tape)
        self.indexes = {entry[0]: index for index, entry in enumerate(self.rounds)}
        self.calls = {call: True for call in heard_on(tape, hear)}

    def rounds_of(self, call):
        """The rounds by which the number of this call is heard at its tick; none if it is not heard here."""
        if call not in self.calls:
            return ()
        end = self.indexes[call[0]] + 1
        return self.rounds[end - self.hear:end]


def sure_calls(service, tapes):
    check_tapes(service, tapes)
    hear = service.town.hear
    doubter = Doubter(service)
    heard = [HeardTape(loop, tape, hear) for loop, pair in enumerate(tapes) for tape in pair]
    told = []
    for call in calls_on([tape for pair in tapes for tape in pair], hear):
        told.append((*call, is_sure_call(doubter, heard, call)))
    return tuple(told)


def is_sure_call(doubter, heard, call):
    for tape in heard:
        for entry in tape.rounds_of(call):
            if doubter.is_sure(tape.loop, entry):
                return True
    return False

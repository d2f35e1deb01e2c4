"""The deeds that make a false reading heard, and covers drawn as lines [5.10], [5.12]."""

from wheelchorus.errors import BadQuestion
from wheelchorus.lays import KEY
from wheelchorus.numbers import length_of
from wheelchorus.town import Town

# A key that is held for two ticks ends right ahead of the first piece.
KEY_AHEAD = 2
# A shy box begins behind eight closed ticks.
QUIET_AHEAD = 8
# A row ends in five closed ticks; so many more make the wire quiet for the second piece.
GAP = 3


def deed_row(town, reading, loop=None):
    boxes = town.wire(loop)
    if town.rounds != reading.rounds:
        raise BadQuestion("rounds")
    if not all([lay_box(facts) in boxes for facts in reading.first + reading.second]):
        raise BadQuestion("boxes")
    is_joined = loop is None
    begin = begin_tick(reading, is_joined)
    deeds = [(begin + pull_offset(facts, reading.rounds), ("pull", facts[0])) for facts in reading.first]
    if is_joined:
        deeds.append((begin - KEY_AHEAD if reading.case == KEY else 0, ("join",)))
    elif reading.case == KEY:
        deeds.append((begin - KEY_AHEAD, ("cut", loop, len(boxes))))
    length = length_of(reading.number)
    last = begin
    if reading.form == "doubled":
        last = begin + length
    if reading.form == "apart":
        last = begin + length + GAP
        deeds.extend(second_pulls(reading, last))
    return tuple(sorted(deeds, key=deed_order)), last + length - 1


def lay_box(facts):
    """The box, with its sort, that the lay with these facts needs."""
    return facts[0], Town.SHY if facts[1] == "head" else Town.PLAIN


def pull_offset(facts, rounds):
    """When the box is pulled, counted from the first tick of the piece."""
    number, kind, at, left = facts
    # Trains and tails are pulled so early that just these rounds are left.
    return at - (rounds - left) * length_of(number) if kind in ("train", "tail") else at


def begin_tick(reading, is_joined):
    """The tick at which the first piece begins."""
    ticks = [-pull_offset(facts, reading.rounds) for facts in reading.first]
    if reading.case == KEY:
        ticks.append(KEY_AHEAD)
    start = 0
    if is_joined:
        # The town is joined at tick 0, and a joining holds the key.
        start = KEY_AHEAD
        ticks.append(start)
    if len(heads_of(reading)) > 0:
        ticks.append(start + QUIET_AHEAD)
    return max(ticks)


def heads_of(reading):
    """The numbers of the shy boxes that take part in the first piece."""
    return [facts[0] for facts in reading.first if facts[1] == "head"]


def second_pulls(reading, begin):
    """The pulls for a second piece; a shy box of the first one still has its rounds to send."""
    heads = heads_of(reading)
    return [(begin + facts[2], ("pull", facts[0])) for facts in reading.second if facts[0] not in heads]


def deed_order(timed):
    tick, deed = timed
    is_pull = deed[0] == "pull"
    return tick, is_pull, deed[1] if is_pull else ""


def cover_lines(question, lay_facts):
    lines = [drawn_line(question.number, question.pattern, question.span)]
    for facts in lay_facts:
        number, kind, _, rounds = facts
        strokes = question.lay(facts).strokes
        lines.append(f"{drawn_line(number, strokes, question.span)} {kind} {rounds}")
    return tuple(lines)


def drawn_line(number, strokes, span):
    signs = "".join(["x" if offset in strokes else "." for offset in range(span)])
    return f"{number:<4} {signs}"

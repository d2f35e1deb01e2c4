"""Judges of verdicts and of what they show, however they were made [9.13], [9.14]."""

from wheelchorus.coverjudge import safe_fault
from wheelchorus.errors import BadStatement, WheelError
from wheelchorus.hiding import others_of
from wheelchorus.line import KEY_TICKS
from wheelchorus.margins import fewest_pulls
from wheelchorus.orderjudge import table_fault
from wheelchorus.room import BACK, CALL, MORE
from wheelchorus.service_run import play_service
from wheelchorus.verdict import CREWS, FALSE, HIDDEN, HOUSES, Verdict, hidden_paper

PULL = "pull"


def shows(service, statement, number, timed, ticks):
    if statement not in Verdict.STATEMENTS:
        raise BadStatement(statement)
    run = play_service(service, timed, ticks)
    if statement == FALSE:
        return shows_false(run, number)
    if statement == HIDDEN:
        return shows_hidden(run, number, timed)
    if statement == HOUSES:
        return shows_houses(run, number, timed)
    return shows_crews(run, number, timed)


def names_in(entries):
    """The numbers of pairs (tick, number)."""
    return [number for _, number in entries]


def shows_false(run, number):
    if number not in run.service.town.numbers or number in names_in(run.pullings):
        return False
    return (run.clock - 1, number) in run.hearings


def shows_hidden(run, number, timed):
    pulls = list(timed)
    if run.service.joining and pulls[:1] == [(0, ("join",))]:
        pulls = pulls[1:]
        if any([tick < KEY_TICKS for tick, _ in pulls]):
            return False
    if not all([happening[0] == PULL for _, happening in pulls]):
        return False
    names = [happening[1] for _, happening in pulls]
    # Without levels no house warns, so that only these pulls can have been taken.
    if len(run.pullings) < len(names) or names.count(number) != 1 or len(names) - 1 > run.service.most:
        return False
    return run.rests() and number not in names_in(run.hearings)


def shows_houses(run, number, timed):
    if len(timed) == 0:
        return False
    tick, happening = timed[0]
    if tick != 0 or happening[:2] != ("fault", number):
        return False
    house = run.service.house_of(number)
    if run.clock != house.rows or len(timed) != house.rows + 1:
        return False
    for due, (tick, happening) in enumerate(timed[1:]):
        if tick != due or happening[:2] != ("levels", number) or min(happening[2]) <= house.mark:
            return False
    return number not in names_in(run.pullings)


def shows_crews(run, number, timed):
    if not all([happening[0] in (PULL, MORE, BACK) for _, happening in timed]):
        return False
    if not are_pulled_first(run) or most_open_in(run.book) > run.service.most_open or len(run) == 0:
        return False
    row = run.book[-1]
    return row[0] in (CALL, MORE) and row[2] == number and row[-1] > 0


def are_pulled_first(run):
    """Whether each number that was heard was pulled ahead of it."""
    first = {}
    for tick, number in run.pullings:
        first.setdefault(number, tick)
    return all([number in first and first[number] <= tick for tick, number in run.hearings])


def most_open_in(book):
    """How many numbers are open at once behind some row of the book."""
    counts = [0]
    for row in book:
        if row[0] == CALL:
            counts.append(counts[-1] + 1)
        elif row[0] == BACK:
            counts.append(counts[-1] - 1)
    return max(counts)


def verdict_fault(service, verdict, *, statements=("false", "hidden", "houses", "crews")):
    statement = verdict.statement
    if statement is not None and statement not in statements:
        return ("statement",)
    ahead = statements if statement is None else statements[:statements.index(statement)]
    if [word for word, _ in verdict.papers] != list(ahead):
        return ("papers",)
    for word, paper in verdict.papers:
        fault = paper_fault(service, word, paper)
        if fault is not None:
            return fault
    if statement is not None and not is_shown(service, verdict):
        return ("timed",)
    return None


def is_shown(service, verdict):
    try:
        return shows(service, verdict.statement, verdict.number, verdict.timed, verdict.duration)
    except WheelError:
        return False


def paper_fault(service, word, paper):
    if word == CREWS:
        fault = table_fault(service.room, paper, most_open=service.most_open)
        return None if fault is None else (word, None, fault)
    due = due_entries(service, word)
    for index in range(max(len(due), len(paper))):
        if index >= len(due) or index >= len(paper) or paper[index][:2] != due[index]:
            return word, index, None
        fault = entry_fault(service, word, paper[index])
        if fault is not None:
            return word, index, fault
    return None


def due_entries(service, word):
    """The two items with which each entry of the paper for this statement begins."""
    if word == HOUSES:
        return [(house.box, fault) for house in service.houses for fault in house.layout.all_faults()]
    wires = list(enumerate(service.wires))
    if word == FALSE:
        return [(index, number) for index, _ in wires for number in service.town.numbers]
    return [(index, number) for index, wire in wires for number, _ in wire]


def entry_fault(service, word, entry):
    """What is wrong with the third item of an entry; None if it is right."""
    if word == HOUSES:
        return heard_fault(service, entry)
    if word == HIDDEN:
        return hidden_fault(service, entry)
    town = service.town
    index, number, safe = entry
    others = others_of(service.wires[index], number)
    return safe_fault(others, number, safe, rounds=town.rounds, hear=town.hear, key=service.key)


def hidden_fault(service, entry):
    index, number, table = entry
    town = service.town
    wire = service.wires[index]
    sort = town.sort_of(number)
    if table != hidden_paper(others_of(wire, number), number, sort, town.rounds):
        return "table"
    count = fewest_pulls(town, wire, number, sort)
    return count if count is not None and count <= service.most else None


def heard_fault(service, entry):
    box, fault, told = entry
    house = service.house_of(box)
    heard = house.layout.reached((fault,))
    return heard if told != heard or len(heard) < house.need else None

"""The tests' own reading of [9.13], and services that fail or hold in a known way."""

from tests import plain
from wheelchorus.cards import read_card
from wheelchorus.house import House
from wheelchorus.service import Service
from wheelchorus.service_run import play_service
from wheelchorus.town import Town

STATEMENTS = ("false", "hidden", "houses", "crews")


def shown(service, statement, number, timed, ticks):
    """[9.13] over what a run tells."""
    run = play_service(service, timed, ticks)
    words = {happening[0] for _, happening in timed}
    pulled = [name for _, name in run.pullings]
    heard = [name for _, name in run.hearings]
    rows = list(run)
    if statement == "false":
        return number in service.town.numbers and number not in pulled and (ticks - 1, number) in run.hearings
    if statement == "hidden":
        joins = service.joining and bool(timed) and timed[0] == (0, ("join",))
        pulls = list(timed)[1:] if joins else list(timed)
        if {happening[0] for _, happening in pulls} - {"pull"} or joins and any(tick < 2 for tick, _ in pulls):
            return False
        taken = all(row[3] for row in rows if row[0] == "pull")
        own = pulled.count(number)
        return taken and own == 1 and len(pulled) - own <= service.most and run.rests() and number not in heard
    if statement == "houses":
        houses = [house for house in service.houses if house.box == number]
        if not timed or not houses or timed[0][0] != 0 or timed[0][1][:2] != ("fault", number):
            return False
        house = houses[0]
        others = list(timed)[1:]
        due = [(tick, "levels", number) for tick in range(house.rows)]
        if [(tick, *happening[:2]) for tick, happening in others] != due or ticks != house.rows:
            return False
        return all(min(happening[2]) > house.mark for _, happening in others) and number not in pulled
    if words - {"pull", "more", "back"} or not rows:
        return False
    for tick, name in run.hearings:
        if not any(at <= tick and other == name for at, other in run.pullings):
            return False
    opened = {}
    for row in rows:
        if row[0] in ("call", "back"):
            opened[row[2]] = row[0] == "call"
        if sum(opened.values()) > service.most_open:
            return False
    return rows[-1][0] in ("call", "more") and rows[-1][2] == number and rows[-1][6] > 0


# A town in which no number can be heard falsely; 24 and 3 are on one loop, and each is hidden by one pull.
TOWN = Town([[("24", "plain"), ("3", "shy")], [("5", "shy")]], rounds=2, hear=2)
SAFE = Service(
    TOWN, houses=[House("3", "sos", mark=5, rows=2), House("5", "soso", mark=-1, rows=3)], stations=(0, 0, 1),
    cards=[read_card("24: 0 2 / 1 1 0 / 1 1 1"), read_card("5: 1 / 1 0 0 / 0 0 0 / 0>1")], cutting=True,
)
# For each statement a service in which it alone does not hold.
FAILING = {
    "false": Service(Town([[("1", "plain"), ("2", "plain")], [("12", "shy")]], rounds=1)),
    "hidden": SAFE.with_parts(most=1),
    "houses": SAFE.with_parts(houses=[SAFE.houses[0], House("5", "sos", mark=-1, rows=3, need=2)]),
    "crews": SAFE.with_parts(cards=[SAFE.cards[1], read_card("24: 0 2 / 1 1 0 / 1 1 3")]),
}


def big_service(seed, many=30, every=5, **more):
    """A service of so many boxes with long rows, ten on a loop; each fifth is plain, or as told."""
    numbers = [number for number in plain.some_numbers(seed, 4 * many) if len(plain.row(number)) >= 36][:many]
    loops = [[(number, "plain" if k % every == 0 else "shy") for k, number in enumerate(numbers[at:at + 10])]
             for at in range(0, many, 10)]
    parts = {"rounds": 3, "hear": 2}
    parts.update({name: more.pop(name) for name in ("rounds", "hear") if name in more})
    return Service(Town(loops, **parts), **more)

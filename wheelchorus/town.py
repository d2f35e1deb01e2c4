"""Towns: their loops, boxes and rules [1.7], [1.8]."""

from wheelchorus.errors import BadTown, NoBox, NoLoop
from wheelchorus.kinds import is_sequence, is_whole_within
from wheelchorus.numbers import is_number

MOST_LOOPS = 3
MOST_BOXES = 10
MOST_ROUNDS = 8


class Town:
    PLAIN = "plain"
    SHY = "shy"

    def __init__(self, loops, *, rounds, hear=1):
        check_town(loops, rounds, hear)
        self.loops = tuple([tuple([tuple(box) for box in loop]) for loop in loops])
        self.rounds = rounds
        self.hear = hear
        self.numbers = tuple([number for loop in self.loops for number, _ in loop])

    def __eq__(self, other):
        return (
            isinstance(other, Town)
            and self.loops == other.loops
            and self.rounds == other.rounds
            and self.hear == other.hear
        )

    def sort_of(self, number):
        loop, place = self.site_of(number)
        return self.loops[loop][place][1]

    def loop_of(self, number):
        return self.site_of(number)[0]

    def place_of(self, number):
        return self.site_of(number)[1]

    def site_of(self, number):
        """The loop and the place of the box with this number."""
        for index, loop in enumerate(self.loops):
            for place, box in enumerate(loop):
                if box[0] == number:
                    return index, place
        raise NoBox(number)

    def wire(self, loop=None):
        if loop is None:
            return tuple([box for boxes in self.loops for box in boxes])
        if not is_whole_within(loop, 0, len(self.loops) - 1):
            raise NoLoop(loop)
        return self.loops[loop]

    def with_sort(self, number, sort):
        return self.with_box(number, (number, sort))

    def with_number(self, old, new):
        return self.with_box(old, (new, self.sort_of(old)))

    def with_box(self, number, box):
        """A new town in which this box stands in the place of the one with this number."""
        index, place = self.site_of(number)
        loops = [list(loop) for loop in self.loops]
        loops[index][place] = box
        return Town(loops, rounds=self.rounds, hear=self.hear)

    def with_rules(self, *, rounds=None, hear=None):
        new_rounds = self.rounds if rounds is None else rounds
        new_hear = self.hear if hear is None else hear
        return Town(self.loops, rounds=new_rounds, hear=new_hear)


def is_sort(thing):
    return thing in (Town.PLAIN, Town.SHY)


def is_box(thing):
    return is_sequence(thing) and len(thing) == 2 and is_number(thing[0]) and is_sort(thing[1])


def are_boxes(thing, least, most):
    """Whether this is a sequence of so many boxes, no number of which stands twice."""
    if not is_sequence(thing) or not least <= len(thing) <= most:
        return False
    return all([is_box(box) for box in thing]) and not has_double(thing)


def has_double(boxes):
    """Whether some number stands twice in boxes whose numbers are right."""
    return len(set([number for number, _ in boxes])) < len(boxes)


def check_town(loops, rounds, hear):
    if not are_loops(loops):
        raise BadTown("loops")
    check_boxes([box for loop in loops for box in loop])
    if not is_whole_within(rounds, 1, MOST_ROUNDS):
        raise BadTown("rounds")
    if not is_whole_within(hear, 1, 2) or hear > rounds:
        raise BadTown("hear")


def are_loops(thing):
    if not is_sequence(thing) or not 1 <= len(thing) <= MOST_LOOPS:
        return False
    return all([is_sequence(loop) and 1 <= len(loop) <= MOST_BOXES for loop in thing])


def check_boxes(boxes):
    # Each word is asked of all boxes ahead of the next word, as [1.8] orders them.
    if not all([is_sequence(box) and len(box) == 2 for box in boxes]):
        raise BadTown("box")
    if not all([is_number(number) for number, _ in boxes]):
        raise BadTown("number")
    if not all([is_sort(sort) for _, sort in boxes]):
        raise BadTown("sort")
    if has_double(boxes):
        raise BadTown("double")

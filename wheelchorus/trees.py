"""Trees of cases: papers which show that a question has no cover [5.4]."""

from wheelchorus.kinds import copy_of


class Tree:
    """A node: an open stroke, and a branch for each lay that could give it."""

    def __init__(self, stroke, branches=()):
        self.stroke = copy_of(stroke)
        self.branches = tuple([(copy_of(facts), tree) for facts, tree in branches])

    def __eq__(self, other):
        return isinstance(other, Tree) and self.stroke == other.stroke and self.branches == other.branches

    def size(self):
        return 1 + sum([tree.size() for _, tree in self.branches])

    def leaves(self):
        if len(self.branches) == 0:
            yield self.stroke
        for _, tree in self.branches:
            yield from tree.leaves()

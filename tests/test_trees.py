"""[5.4] and the heading trees.py: the trees themselves (their judge is tested in test_coverjudge)."""

import random
import unittest

from tests import plain
from wheelchorus.trees import Tree

FACTS = ("1", "pull", 0, 1)
OTHER = ("2", "pull", 4, 1)


def some_tree(chance, deep):
    """A tree, the list of its nodes' strokes, and the list of its leaves' strokes, depth first."""
    stroke = chance.randrange(40)
    many = chance.choice((0, 1, 2, 3)) if deep else 0
    branches, nodes, leaves = [], [stroke], [] if many else [stroke]
    for _ in range(many):
        tree, more, ends = some_tree(chance, deep - 1)
        branches.append((chance.choice((FACTS, OTHER)), tree))
        nodes += more
        leaves += ends
    return Tree(stroke, branches if chance.random() < 0.5 else tuple(branches)), nodes, leaves


class TreeTest(unittest.TestCase):
    def test_leaf(self):
        leaf = Tree(8)
        self.assertEqual((leaf.stroke, leaf.branches, leaf.size(), list(leaf.leaves())), (8, (), 1, [8]))

    def test_known_tree(self):
        leaf = Tree(6)
        tree = Tree(0, [(FACTS, leaf), (OTHER, Tree(4, ((FACTS, Tree(2)),)))])
        self.assertIs(type(tree.branches), tuple)
        self.assertEqual([facts for facts, _ in tree.branches], [FACTS, OTHER])
        self.assertEqual((tree.size(), list(tree.leaves())), (4, [6, 2]))
        self.assertEqual(list(tree.leaves()), [6, 2])

    def test_size_and_leaves(self):
        chance = random.Random(541)
        for _ in range(60):
            tree, nodes, leaves = some_tree(chance, 6)
            self.assertEqual(tree.size(), len(nodes))
            self.assertEqual(list(tree.leaves()), leaves)

    def test_equality(self):
        branches = ((FACTS, Tree(6)), (OTHER, Tree(4, ((FACTS, Tree(2)),))))
        tree = Tree(0, branches)
        self.assertTrue(tree == Tree(0, list(branches)))
        self.assertFalse(tree != Tree(0, list(branches)))
        others = (
            Tree(2, branches), Tree(0, branches[::-1]), Tree(0, branches[:1]), Tree(0),
            Tree(0, (branches[0], (OTHER, Tree(4, ((FACTS, Tree(8)),))))),
            Tree(0, (branches[0], (OTHER, Tree(4, ((OTHER, Tree(2)),))))),
            Tree(0, (branches[0], (OTHER, Tree(4)))),
        )
        for other in others:
            self.assertFalse(tree == other)
        for thing in plain.ANY_OBJECTS + (0, (0, branches), branches):
            self.assertFalse(tree == thing)
            self.assertTrue(tree != thing)

    def test_what_was_passed_is_not_kept(self):
        facts = ["1", "pull", 0, 1]
        branches = [(facts, Tree(2))]
        tree = Tree(0, branches)
        branches.append((OTHER, Tree(4)))
        facts.append(5)
        self.assertEqual((tree.size(), tree.branches[0][0]), (2, ["1", "pull", 0, 1]))

    def test_what_stands_in_a_wrong_stroke_or_in_wrong_facts_is_not_kept(self):
        inner, table = ["pull"], {"at": [0]}
        tree = Tree(table, [(("1", inner, 0, 1), Tree([inner]))])
        inner.append(1)
        table["at"].append(1)
        table["more"] = None
        self.assertEqual(tree.stroke, {"at": [0]})
        facts, below = tree.branches[0]
        self.assertEqual((facts, below.stroke), (("1", ["pull"], 0, 1), [["pull"]]))

    def test_5000_nodes_60_deep(self):
        def made(start):
            tree = Tree(start)
            for stroke in range(59):
                tree = Tree(stroke, ((FACTS, tree),))
            return Tree(99, [(OTHER, tree)] + [(FACTS, Tree(k)) for k in range(4938)])
        tree = made(7)
        self.assertEqual(tree.size(), 4999)
        self.assertEqual(len(list(tree.leaves())), 4939)
        self.assertTrue(tree == made(7))
        self.assertFalse(tree == made(8))


if __name__ == "__main__":
    unittest.main()

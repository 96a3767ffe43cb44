"""What nodes answers."""

import unittest

from tests.helper import TOP, ask, chain, node, nodes, one, rule, shown, tree


class Nodes(unittest.TestCase):
    def check(self, shape, expected):
        self.assertEqual(ask(tree(shape), nodes()), [[0], expected])

    def test_no_tree(self):
        self.assertEqual(ask(nodes()), [[0]])
        self.assertEqual(ask(rule(one(1)), nodes(), nodes()), [[0], [0], [0]])
        self.assertEqual(ask(tree([]), nodes()), [[-1], [0]])
        self.assertEqual(ask(tree([0] * 771), nodes()), [[-3], [0]])

    def test_one_node(self):
        self.check(node(5), [1, 5, 0])
        self.check(node(0), [1, 0, 0])

    def test_labels(self):
        self.check(node(TOP), [1, TOP, 0])
        self.check(node(2147483648, node(TOP), node(TOP - 1, node(0))), [4, 2147483648, 2, TOP, 0, TOP - 1, 1, 0, 0])

    def test_each_before_its_children(self):
        self.check(node(1, node(2, node(3), node(4)), node(5), node(6, node(7))),
                   [7, 1, 3, 2, 2, 3, 0, 4, 0, 5, 0, 6, 1, 7, 0])

    def test_256_nodes(self):
        labels = [TOP - k for k in range(256)]
        self.check(chain(labels), [256] + [number for label in labels[:-1] for number in (label, 1)] + [labels[-1], 0])
        self.check(node(TOP, *[node(label) for label in labels[:255]]),
                   [256, TOP, 255] + [number for label in labels[:255] for number in (label, 0)])

    def test_it_changes_nothing(self):
        shape = node(1, node(2), node(3))
        self.assertEqual(ask(tree(shape), nodes(), nodes(), nodes()), [[0]] + [shown(shape)] * 3)

    def test_the_tree_that_is_there(self):
        told = ask(tree(node(1)), nodes(), tree(node(2, node(3))), nodes(), tree([1, 1, 0]), nodes())
        self.assertEqual(told, [[0], [1, 1, 0], [0], [2, 2, 1, 3, 0], [-1], [2, 2, 1, 3, 0]])

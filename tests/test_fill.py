"""The call fill: the row's first node, how many trees, and what is answered where there is nothing."""

import unittest

from tests.helper import TOP, ask_about, fill, fillings, node, one, row

#            0        1        2  3        4
SHAPE = node(1, node(2, node(3)), node(4, node(5)))


class WhatFills(unittest.TestCase):
    def test_one_tree_with_all_below_it(self):
        self.assertEqual(fillings(SHAPE, node(1, one(7), one(8)), 0, [7, 8]), [[[1, 1, 1], [1, 3, 1]]])

    def test_rows_count_trees_not_nodes(self):
        self.assertEqual(fillings(SHAPE, node(1, row(7)), 0, [7]), [[[1, 1, 2]]])
        self.assertEqual(fillings(SHAPE, node(1, one(8), row(7)), 0, [7]), [[[1, 3, 1]]])

    def test_the_first_node_itself(self):
        self.assertEqual(ask_about(SHAPE, one(6), fill(0, 3, 0, 6)), [[1, 3, 1]])

    def test_below_a_node_that_is_not_the_first(self):
        self.assertEqual(ask_about(SHAPE, node(4, row(6)), fill(0, 3, 0, 6)), [[1, 4, 1]])


class NoTrees(unittest.TestCase):
    def test_at_a_row_s_beginning(self):
        self.assertEqual(fillings(SHAPE, node(1, row(7), one(8), one(9)), 0, [7]), [[[1, 1, 0]]])

    def test_in_its_middle(self):
        self.assertEqual(fillings(SHAPE, node(1, one(8), row(7), one(9)), 0, [7]), [[[1, 3, 0]]])

    def test_at_its_end(self):
        pattern = node(1, node(2, one(8), row(7)), one(9))
        self.assertEqual(fillings(SHAPE, pattern, 0, [7]), [[[1, 3, 0]]])

    def test_behind_the_tree_s_last_node(self):
        self.assertEqual(fillings(SHAPE, node(1, one(8), one(9), row(7)), 0, [7]), [[[1, 5, 0]]])
        self.assertEqual(ask_about(SHAPE, node(5, row(7)), fill(0, 4, 0, 7)), [[1, 5, 0]])
        self.assertEqual(ask_about(node(1), node(1, row(7)), fill(0, 0, 0, 7)), [[1, 1, 0]])

    def test_below_a_node_without_children(self):
        self.assertEqual(ask_about(SHAPE, node(3, row(7)), fill(0, 2, 0, 7)), [[1, 3, 0]])
        pattern = node(1, node(2, node(3, row(7))), one(9))
        self.assertEqual(fillings(SHAPE, pattern, 0, [7]), [[[1, 3, 0]]])

    def test_several_in_one_place(self):
        pattern = node(1, one(8), row(7), row(6), row(5), one(9))
        self.assertEqual(fillings(SHAPE, pattern, 0, [5, 6, 7]), [[[1, 3, 0]] * 3])


class NothingToTell(unittest.TestCase):
    pattern = node(1, row(7), row(8))

    def test_no_such_way(self):
        calls = [fill(0, 0, w, 7) for w in (2, 3, TOP)]
        self.assertEqual(ask_about(SHAPE, self.pattern, *calls), [[1, 1, 2], [0], [0]])

    def test_no_way_at_that_node(self):
        self.assertEqual(ask_about(SHAPE, self.pattern, fill(0, 1, 0, 7)), [[0]])

    def test_no_such_hole(self):
        calls = [fill(0, 0, 0, h) for h in (0, 9, TOP)]
        self.assertEqual(ask_about(SHAPE, self.pattern, *calls), [[0]] * 3)

    def test_a_label_is_no_hole(self):
        self.assertEqual(ask_about(SHAPE, self.pattern, fill(0, 0, 0, 1)), [[0]])

    def test_no_such_rule(self):
        self.assertEqual(ask_about(SHAPE, self.pattern, fill(1, 0, 0, 7), fill(TOP, 0, 0, 7)), [[0], [0]])

    def test_no_such_node(self):
        self.assertEqual(ask_about(SHAPE, one(7), fill(0, 5, 0, 7), fill(0, TOP, 0, 7)), [[0], [0]])

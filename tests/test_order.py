"""Promise 2: ways and places have one order."""

import unittest

from tests.helper import TOP, ask_about, fillings, find, node, one, row


class OrderOfWays(unittest.TestCase):
    def test_two_holes_fewer_first(self):
        shape = node(1, node(2), node(2), node(2))
        self.assertEqual(fillings(shape, node(1, row(1), row(2)), 0, [1, 2]), [
            [[1, 1, 0], [1, 1, 3]],
            [[1, 1, 1], [1, 2, 2]],
            [[1, 1, 2], [1, 3, 1]],
            [[1, 1, 3], [1, 4, 0]],
        ])

    def test_the_pattern_s_order_counts_not_the_numbers(self):
        shape = node(1, node(2), node(2))
        self.assertEqual(fillings(shape, node(1, row(9), row(3)), 0, [3, 9]), [
            [[1, 1, 2], [1, 1, 0]],
            [[1, 2, 1], [1, 1, 1]],
            [[1, 3, 0], [1, 1, 2]],
        ])

    def test_three_holes_the_next_one_where_the_first_is_the_same(self):
        shape = node(1, node(2), node(2))
        self.assertEqual(fillings(shape, node(1, row(1), row(2), row(3)), 0, [1, 2, 3]), [
            [[1, 1, 0], [1, 1, 0], [1, 1, 2]],
            [[1, 1, 0], [1, 1, 1], [1, 2, 1]],
            [[1, 1, 0], [1, 1, 2], [1, 3, 0]],
            [[1, 1, 1], [1, 2, 0], [1, 2, 1]],
            [[1, 1, 1], [1, 2, 1], [1, 3, 0]],
            [[1, 1, 2], [1, 3, 0], [1, 3, 0]],
        ])

    def test_the_first_hole_goes_before_one_further_down(self):
        shape = node(1, node(2, node(3), node(3)), node(2))
        self.assertEqual(fillings(shape, node(1, row(1), node(2, row(2)), row(3)), 0, [1, 2, 3]), [
            [[1, 1, 0], [1, 2, 2], [1, 4, 1]],
            [[1, 1, 1], [1, 5, 0], [1, 5, 0]],
        ])

    def test_a_hole_further_down_goes_before_one_behind_it(self):
        shape = node(1, node(2, node(3), node(3)), node(4), node(4))
        pattern = node(1, node(2, row(1), node(3), row(2)), row(3))
        self.assertEqual(fillings(shape, pattern, 0, [1, 2, 3]), [
            [[1, 2, 0], [1, 3, 1], [1, 4, 2]],
            [[1, 2, 1], [1, 4, 0], [1, 4, 2]],
        ])

    def test_two_holes_on_a_level_behind_one_above(self):
        shape = node(1, node(2, node(3), node(3)), node(2, node(3)))
        pattern = node(1, row(5), node(2, row(4), row(3)), one(1))
        self.assertEqual(fillings(shape, pattern, 0, [5, 4, 3, 1]), [
            [[1, 1, 0], [1, 2, 0], [1, 2, 2], [1, 4, 1]],
            [[1, 1, 0], [1, 2, 1], [1, 3, 1], [1, 4, 1]],
            [[1, 1, 0], [1, 2, 2], [1, 4, 0], [1, 4, 1]],
        ])


class OrderOfPlaces(unittest.TestCase):
    #            0        1        2        3  4        5
    shape = node(1, node(2, node(3, node(2))), node(2))

    def test_the_first_node_from_there_on(self):
        starts = [0, 1, 2, 3, 4, 5, 6, TOP]
        told = ask_about(self.shape, node(2, row(1)), *[find(0, start) for start in starts])
        self.assertEqual(told, [[1, 1], [1, 1], [1, 3], [1, 3], [1, 4], [0], [0], [0]])

    def test_a_node_before_its_children_before_its_neighbours(self):
        told = ask_about(self.shape, one(1), *[find(0, start) for start in range(6)])
        self.assertEqual(told, [[1, 0], [1, 1], [1, 2], [1, 3], [1, 4], [0]])

    def test_none(self):
        self.assertEqual(ask_about(self.shape, node(9), find(0, 0)), [[0]])

    def test_behind_the_only_one(self):
        told = ask_about(self.shape, node(3, one(1)), find(0, 0), find(0, 2), find(0, 3))
        self.assertEqual(told, [[1, 2], [1, 2], [0]])

    def test_no_such_rule(self):
        self.assertEqual(ask_about(self.shape, one(1), find(1, 0), find(TOP, 0)), [[0], [0]])

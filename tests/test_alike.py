"""Promise 5: a hole that's met twice matches alike trees alone."""

import unittest

from tests.helper import chain, fillings, node, one, row, ways_everywhere


class HoleOfKind1(unittest.TestCase):
    def test_alike_trees(self):
        self.assertEqual(ways_everywhere(node(1, node(2), node(2)), node(1, one(1), one(1))), [1, 0, 0])
        deep = node(2, node(3, node(4), node(5)), node(6))
        self.assertEqual(ways_everywhere(node(1, deep, deep), node(1, one(1), one(1)))[0], 1)

    def test_a_label_differs(self):
        self.assertEqual(ways_everywhere(node(1, node(2), node(3)), node(1, one(1), one(1)))[0], 0)

    def test_a_label_differs_far_below(self):
        labels = list(range(100))
        pattern = node(1, one(1), one(1))
        self.assertEqual(ways_everywhere(node(1, chain(labels), chain(labels)), pattern)[0], 1)
        self.assertEqual(ways_everywhere(node(1, chain(labels), chain(labels[:-1] + [7])), pattern)[0], 0)

    def test_children_differ_far_below(self):
        labels = list(range(100))
        pattern = node(1, one(1), one(1))
        self.assertEqual(ways_everywhere(node(1, chain(labels), chain(labels + [7])), pattern)[0], 0)
        self.assertEqual(ways_everywhere(node(1, chain(labels), chain(labels[:-1])), pattern)[0], 0)

    def test_the_same_labels_hang_otherwise(self):
        shape = node(1, node(2, node(3), node(4)), node(2, node(3, node(4))))
        self.assertEqual(ways_everywhere(shape, node(1, one(1), one(1)))[0], 0)
        shape = node(1, node(2, node(3), node(4)), node(2, node(4), node(3)))
        self.assertEqual(ways_everywhere(shape, node(1, one(1), one(1)))[0], 0)

    def test_three_times(self):
        pattern = node(1, one(1), one(1), one(1))
        self.assertEqual(ways_everywhere(node(1, node(2), node(2), node(2)), pattern)[0], 1)
        self.assertEqual(ways_everywhere(node(1, node(2), node(2), node(3)), pattern)[0], 0)
        self.assertEqual(ways_everywhere(node(1, node(2), node(3), node(2)), pattern)[0], 0)

    def test_on_other_levels(self):
        pattern = node(1, one(1), node(2, node(3, one(1))))
        self.assertEqual(ways_everywhere(node(1, node(4), node(2, node(3, node(4)))), pattern)[0], 1)
        self.assertEqual(ways_everywhere(node(1, node(4), node(2, node(3, node(5)))), pattern)[0], 0)

    def test_only_fitting_ways_are_left(self):
        shape = node(1, node(2), node(3), node(2), node(3), node(2))
        pattern = node(1, row(1), one(9), row(2), one(9), row(3))
        self.assertEqual(ways_everywhere(shape, pattern)[0], 4)
        self.assertEqual(fillings(shape, pattern, 0, [1, 2, 3, 9]), [
            [[1, 1, 0], [1, 2, 1], [1, 4, 2], [1, 1, 1]],
            [[1, 1, 0], [1, 2, 3], [1, 6, 0], [1, 1, 1]],
            [[1, 1, 1], [1, 3, 1], [1, 5, 1], [1, 2, 1]],
            [[1, 1, 2], [1, 4, 1], [1, 6, 0], [1, 3, 1]],
        ])

    def test_holes_of_other_numbers_need_not_be_alike(self):
        self.assertEqual(ways_everywhere(node(1, node(2), node(3)), node(1, one(1), one(2)))[0], 1)
        self.assertEqual(ways_everywhere(node(1, node(2), node(2)), node(1, one(1), one(2)))[0], 1)


class HoleOfKind2(unittest.TestCase):
    halves = node(1, node(2), node(2))
    rows = node(1, node(2, row(1)), node(3, row(1)))

    def test_alike_rows(self):
        shape = node(1, node(2, node(4), node(5)), node(3, node(4), node(5)))
        self.assertEqual(ways_everywhere(shape, self.rows)[0], 1)
        self.assertEqual(fillings(shape, self.rows, 0, [1]), [[[1, 2, 2]]])

    def test_a_label_differs(self):
        shape = node(1, node(2, node(4), node(5)), node(3, node(4), node(6)))
        self.assertEqual(ways_everywhere(shape, self.rows)[0], 0)

    def test_far_below(self):
        labels = list(range(90))
        shape = node(1, node(2, node(4), chain(labels)), node(3, node(4), chain(labels)))
        self.assertEqual(ways_everywhere(shape, self.rows)[0], 1)
        shape = node(1, node(2, node(4), chain(labels)), node(3, node(4), chain(labels[:-1] + [1])))
        self.assertEqual(ways_everywhere(shape, self.rows)[0], 0)
        shape = node(1, node(2, node(4), chain(labels)), node(3, node(4), chain(labels[:-1])))
        self.assertEqual(ways_everywhere(shape, self.rows)[0], 0)

    def test_rows_of_different_lengths(self):
        shape = node(1, node(2, node(4)), node(3, node(4), node(4)))
        self.assertEqual(ways_everywhere(shape, self.rows)[0], 0)
        shape = node(1, node(2, node(4), node(4)), node(3, node(4)))
        self.assertEqual(ways_everywhere(shape, self.rows)[0], 0)
        self.assertEqual(ways_everywhere(node(1, node(2), node(3, node(4))), self.rows)[0], 0)
        self.assertEqual(ways_everywhere(node(1, node(2, node(4)), node(3)), self.rows)[0], 0)

    def test_two_empty_rows(self):
        shape = node(1, node(2), node(3))
        self.assertEqual(ways_everywhere(shape, self.rows)[0], 1)
        self.assertEqual(fillings(shape, self.rows, 0, [1]), [[[1, 2, 0]]])
        self.assertEqual(fillings(node(1), node(1, row(1), row(1)), 0, [1]), [[[1, 1, 0]]])

    def test_side_by_side(self):
        pattern = node(1, row(1), row(1))
        self.assertEqual(ways_everywhere(self.halves, pattern)[0], 1)
        self.assertEqual(fillings(self.halves, pattern, 0, [1]), [[[1, 1, 1]]])
        self.assertEqual(ways_everywhere(node(1, node(2), node(2), node(2)), pattern)[0], 0)
        self.assertEqual(ways_everywhere(node(1, node(2), node(3), node(2), node(3)), pattern)[0], 1)
        self.assertEqual(ways_everywhere(node(1, node(2), node(3), node(3), node(2)), pattern)[0], 0)

    def test_three_times(self):
        pattern = node(1, row(1), row(1), row(1))
        self.assertEqual(ways_everywhere(node(1, *[node(2)] * 6), pattern)[0], 1)
        self.assertEqual(ways_everywhere(node(1, *[node(2)] * 5), pattern)[0], 0)
        self.assertEqual(ways_everywhere(node(1, node(2), node(2), node(3)), pattern)[0], 0)

    def test_around_another(self):
        shape = node(1, node(2), node(3), node(4), node(2), node(3))
        pattern = node(1, row(1), row(2), row(1))
        self.assertEqual(fillings(shape, pattern, 0, [1, 2]), [
            [[1, 1, 0], [1, 1, 5]],
            [[1, 1, 2], [1, 3, 1]],
        ])

    def test_behind_and_before_another(self):
        shape = node(1, node(2), node(2), node(2))
        self.assertEqual(fillings(shape, node(1, row(1), row(1), row(2)), 0, [1, 2]), [
            [[1, 1, 0], [1, 1, 3]],
            [[1, 1, 1], [1, 3, 1]],
        ])
        self.assertEqual(fillings(shape, node(1, row(2), row(1), row(1)), 0, [2, 1]), [
            [[1, 1, 1], [1, 2, 1]],
            [[1, 1, 3], [1, 4, 0]],
        ])

    def test_known_from_above(self):
        shape = node(1, node(2, node(3)), node(4), node(3))
        pattern = node(1, node(2, row(1)), row(2), row(1))
        self.assertEqual(fillings(shape, pattern, 0, [1, 2]), [[[1, 2, 1], [1, 3, 1]]])
        shape = node(1, node(2, node(3), node(3), node(3)), node(3))
        self.assertEqual(ways_everywhere(shape, pattern)[0], 0)

    def test_one_further_down_must_be_like_the_first(self):
        shape = node(1, node(2), node(2), node(3, node(2)))
        pattern = node(1, row(1), row(2), node(3, row(1)))
        self.assertEqual(fillings(shape, pattern, 0, [1, 2]), [[[1, 1, 1], [1, 2, 1]]])


class FirstPlace(unittest.TestCase):
    def test_of_kind_1(self):
        shape = node(1, node(9), node(2), node(2))
        self.assertEqual(fillings(shape, node(1, one(3), one(1), one(1)), 0, [1]), [[[1, 2, 1]]])

    def test_of_kind_2(self):
        shape = node(1, node(2, node(4), node(5)), node(3, node(4), node(5)))
        pattern = node(1, node(2, row(1)), node(3, row(1)))
        self.assertEqual(fillings(shape, pattern, 0, [1]), [[[1, 2, 2]]])

    def test_of_kind_2_without_trees(self):
        shape = node(1, node(9), node(2), node(8), node(3))
        pattern = node(1, node(9), node(2, row(1)), node(8), node(3, row(1)))
        self.assertEqual(fillings(shape, pattern, 0, [1]), [[[1, 3, 0]]])

    def test_further_down_comes_first(self):
        shape = node(1, node(2, node(3)), node(3))
        self.assertEqual(fillings(shape, node(1, node(2, one(1)), one(1)), 0, [1]), [[[1, 2, 1]]])


class LabelsLikeNumbersOfHoles(unittest.TestCase):
    """A node's label says nothing of a hole that has the same number, also where that hole is met again."""

    def test_a_node_behind_a_row(self):
        shape = node(1, node(7), node(8), node(5), node(9), node(7))
        pattern = node(1, one(5), row(1), node(5), row(2), one(5))
        self.assertEqual(ways_everywhere(shape, pattern), [1, 0, 0, 0, 0, 0])
        self.assertEqual(fillings(shape, pattern, 0, [5, 1, 2]), [[[1, 1, 1], [1, 2, 1], [1, 4, 1]]])

    def test_a_row_s_number(self):
        shape = node(1, node(4, node(7)), node(8), node(5), node(9), node(4, node(7)))
        pattern = node(1, node(4, row(5)), row(1), node(5), one(2), node(4, row(5)))
        self.assertEqual(ways_everywhere(shape, pattern)[0], 1)
        self.assertEqual(fillings(shape, pattern, 0, [5, 1, 2]), [[[1, 2, 1], [1, 3, 1], [1, 5, 1]]])

    def test_a_node_deeper(self):
        shape = node(1, node(7), node(3, node(5)), node(3, node(7)), node(7))
        pattern = node(1, one(5), row(1), node(3, node(5)), row(2), one(5))
        self.assertEqual(ways_everywhere(shape, pattern)[0], 1)
        self.assertEqual(fillings(shape, pattern, 0, [1, 2]), [[[1, 2, 0], [1, 4, 1]]])

"""Promise 1: every way that matches is found, none twice, none that doesn't match."""

import unittest

from tests.helper import ask_about, chain, fillings, flat, node, one, row, ways, ways_everywhere

LEAVES = node(5, node(1), node(2), node(1), node(3))
#             0        1        2  3        4        5  6        7
NESTED = node(5, node(6, node(1), node(2)), node(6, node(1)), node(7))


class WithoutHoles(unittest.TestCase):
    def test_matches_only_the_very_tree(self):
        self.assertEqual(ways_everywhere(LEAVES, LEAVES), [1, 0, 0, 0, 0])
        self.assertEqual(ways_everywhere(LEAVES, node(1)), [0, 1, 0, 1, 0])

    def test_labels_count(self):
        self.assertEqual(ways_everywhere(LEAVES, node(5, node(1), node(2), node(1), node(4))), [0] * 5)
        self.assertEqual(ways_everywhere(LEAVES, node(6, node(1), node(2), node(1), node(3))), [0] * 5)

    def test_children_count(self):
        self.assertEqual(ways_everywhere(LEAVES, node(5)), [0] * 5)
        self.assertEqual(ways_everywhere(LEAVES, node(5, node(1), node(2), node(1))), [0] * 5)
        self.assertEqual(
            ways_everywhere(LEAVES, node(5, node(1), node(2), node(1), node(3), node(3))), [0] * 5)
        self.assertEqual(
            ways_everywhere(LEAVES, node(5, node(1, node(2)), node(2), node(1), node(3))), [0] * 5)

    def test_order_of_children_counts(self):
        self.assertEqual(ways_everywhere(LEAVES, node(5, node(2), node(1), node(1), node(3))), [0] * 5)

    def test_levels_count(self):
        self.assertEqual(ways_everywhere(chain([1, 1, 1]), chain([1, 1])), [0, 1, 0])
        self.assertEqual(ways_everywhere(node(1, node(1, node(1)), node(1)), node(1, node(1))), [0, 1, 0, 0])
        self.assertEqual(
            ways_everywhere(node(1, node(2, node(3)), node(4)), node(1, node(2), node(3), node(4))), [0] * 4)

    def test_big_labels(self):
        self.assertEqual(ways_everywhere(node(4294967295, node(0)), node(4294967295, node(0))), [1, 0])


class HolesOfKind1(unittest.TestCase):
    def test_alone_matches_everywhere(self):
        self.assertEqual(ways_everywhere(NESTED, one(9)), [1] * 7)
        for i in range(7):
            self.assertEqual(fillings(NESTED, one(9), i, [9]), [[[1, i, 1]]])

    def test_stands_for_just_one_tree(self):
        self.assertEqual(ways_everywhere(NESTED, node(6, one(1))), [0, 0, 0, 0, 1, 0, 0])
        self.assertEqual(ways_everywhere(NESTED, node(6, one(1), one(2))), [0, 1, 0, 0, 0, 0, 0])
        self.assertEqual(ways_everywhere(NESTED, node(7, one(1))), [0] * 7)

    def test_is_filled_with_what_stands_there(self):
        pattern = node(5, one(3), one(1), one(2))
        self.assertEqual(ways_everywhere(NESTED, pattern), [1] + [0] * 6)
        self.assertEqual(fillings(NESTED, pattern, 0, [1, 2, 3]), [[[1, 4, 1], [1, 6, 1], [1, 1, 1]]])

    def test_on_several_levels(self):
        pattern = node(5, node(6, one(1), node(2)), node(6, one(2)), one(3))
        self.assertEqual(ways_everywhere(NESTED, pattern), [1] + [0] * 6)
        self.assertEqual(fillings(NESTED, pattern, 0, [1, 2, 3]), [[[1, 2, 1], [1, 5, 1], [1, 6, 1]]])

    def test_a_hole_s_number_is_no_label(self):
        self.assertEqual(ways_everywhere(node(4, node(9)), node(4, one(4))), [1, 0])


class HolesOfKind2(unittest.TestCase):
    def test_one_takes_all_that_is_left(self):
        self.assertEqual(ways_everywhere(LEAVES, node(5, row(1))), [1, 0, 0, 0, 0])
        self.assertEqual(fillings(LEAVES, node(5, row(1)), 0, [1]), [[[1, 1, 4]]])
        self.assertEqual(fillings(LEAVES, node(5, node(1), row(1)), 0, [1]), [[[1, 2, 3]]])
        self.assertEqual(fillings(LEAVES, node(5, row(1), node(3)), 0, [1]), [[[1, 1, 3]]])
        self.assertEqual(fillings(LEAVES, node(5, node(1), row(1), node(3)), 0, [1]), [[[1, 2, 2]]])

    def test_one_takes_none_too(self):
        self.assertEqual(ways_everywhere(LEAVES, node(1, row(1))), [0, 1, 0, 1, 0])
        self.assertEqual(ways_everywhere(LEAVES, node(5, one(1), one(2), row(5), one(3), one(4))), [1, 0, 0, 0, 0])

    def test_one_does_not_take_less_than_none(self):
        self.assertEqual(
            ways_everywhere(LEAVES, node(5, one(1), one(2), row(9), one(3), one(4), one(5))), [0] * 5)
        self.assertEqual(ways_everywhere(LEAVES, node(5, row(9), *[one(k) for k in range(6)])), [0] * 5)

    def test_one_does_not_match_around_what_differs(self):
        self.assertEqual(ways_everywhere(LEAVES, node(5, row(1), node(1))), [0] * 5)
        self.assertEqual(ways_everywhere(LEAVES, node(5, node(2), row(1))), [0] * 5)

    def test_two_find_each_place_between(self):
        pattern = node(5, row(1), node(1), row(2))
        self.assertEqual(ways_everywhere(LEAVES, pattern), [2, 0, 0, 0, 0])
        self.assertEqual(
            fillings(LEAVES, pattern, 0, [1, 2]), [[[1, 1, 0], [1, 2, 3]], [[1, 1, 2], [1, 4, 1]]])
        self.assertEqual(ways_everywhere(LEAVES, node(5, row(1), one(3), row(2))), [4, 0, 0, 0, 0])
        self.assertEqual(ways_everywhere(LEAVES, node(5, row(1), row(2))), [5, 0, 0, 0, 0])
        self.assertEqual(ways_everywhere(LEAVES, node(5, row(1), node(4), row(2))), [0] * 5)

    def test_three_find_every_pair_of_places(self):
        pattern = node(5, row(1), node(1), row(2), one(4), row(3))
        self.assertEqual(ways_everywhere(LEAVES, pattern), [4, 0, 0, 0, 0])
        self.assertEqual(fillings(LEAVES, pattern, 0, [1, 2, 3, 4]), [
            [[1, 1, 0], [1, 2, 0], [1, 3, 2], [1, 2, 1]],
            [[1, 1, 0], [1, 2, 1], [1, 4, 1], [1, 3, 1]],
            [[1, 1, 0], [1, 2, 2], [1, 5, 0], [1, 4, 1]],
            [[1, 1, 2], [1, 4, 0], [1, 5, 0], [1, 4, 1]],
        ])
        self.assertEqual(ways_everywhere(LEAVES, node(5, row(1), row(2), row(3))), [15, 0, 0, 0, 0])

    def test_on_several_levels(self):
        pattern = node(5, row(1), node(6, row(2), one(4)), row(3))
        self.assertEqual(ways_everywhere(NESTED, pattern), [2] + [0] * 6)
        self.assertEqual(fillings(NESTED, pattern, 0, [1, 2, 3, 4]), [
            [[1, 1, 0], [1, 2, 1], [1, 4, 2], [1, 3, 1]],
            [[1, 1, 1], [1, 5, 0], [1, 6, 1], [1, 5, 1]],
        ])

    def test_a_lower_level_is_matched_whole(self):
        self.assertEqual(ways_everywhere(NESTED, node(5, row(1), node(6, node(2)), row(2))), [0] * 7)
        self.assertEqual(ways_everywhere(NESTED, node(5, row(1), node(6, node(1)), row(2))), [1] + [0] * 6)

    def test_three_each_on_a_level_of_its_own(self):
        shape = node(1, node(2), node(3, node(4), node(5, node(6)), node(7)))
        pattern = node(1, row(1), node(3, row(2), node(5, row(3)), one(4)))
        self.assertEqual(ways_everywhere(shape, pattern), [1] + [0] * 6)
        self.assertEqual(
            fillings(shape, pattern, 0, [1, 2, 3, 4]), [[[1, 1, 1], [1, 3, 1], [1, 5, 1], [1, 6, 1]]])

    def test_two_below_one_among_others(self):
        shape = node(1, node(2, node(3), node(3)), node(2, node(3)))
        pattern = node(1, row(1), node(2, row(2), node(3), row(3)), one(4))
        self.assertEqual(ways_everywhere(shape, pattern), [2, 0, 0, 0, 0, 0])
        self.assertEqual(fillings(shape, pattern, 0, [1, 2, 3]), [
            [[1, 1, 0], [1, 2, 0], [1, 3, 1]],
            [[1, 1, 0], [1, 2, 1], [1, 4, 0]],
        ])


class WhereNothingIs(unittest.TestCase):
    def test_no_such_node(self):
        size = len(flat(NESTED)) // 3
        self.assertEqual(
            ask_about(NESTED, one(1), ways(0, size - 1), ways(0, size), ways(0, 4294967295)), [[1], [0], [0]])

    def test_no_such_rule(self):
        self.assertEqual(ask_about(NESTED, one(1), ways(1, 0), ways(4294967295, 0)), [[0], [0]])

"""The largest trees and patterns there may be."""

import unittest

from tests.helper import ask_about, chain, fill, find, node, one, row, ways, ways_everywhere

LABELS = [k % 5 for k in range(256)]
DEEP = chain(LABELS)
WIDE = node(9, *[node(label) for label in LABELS[:255]])


class Deep(unittest.TestCase):
    def test_a_hole_matches_at_each_node(self):
        self.assertEqual(ways_everywhere(DEEP, one(1)), [1] * 256)

    def test_the_last_node(self):
        told = ask_about(DEEP, node(0), find(0, 0), find(0, 255), find(0, 256), ways(0, 255), ways(0, 250))
        self.assertEqual(told, [[1, 255], [1, 255], [0], [1], [0]])
        told = ask_about(DEEP, node(0, row(1)), fill(0, 255, 0, 1), fill(0, 250, 0, 1))
        self.assertEqual(told, [[1, 256, 0], [1, 251, 1]])

    def test_a_pattern_of_32_nodes_each_below_the_one_before(self):
        self.assertEqual(ways_everywhere(DEEP, chain(LABELS[-32:])), [0] * 224 + [1] + [0] * 31)
        pattern = one(7)
        for label in reversed(LABELS[:31]):
            pattern = node(label, pattern)
        told = ask_about(DEEP, pattern, find(0, 0), find(0, 1), find(0, 221), fill(0, 220, 0, 7))
        self.assertEqual(told, [[1, 0], [1, 5], [0], [1, 251, 1]])

    def test_rows_all_the_way_down(self):
        pattern = node(LABELS[29], row(3))
        for at in range(28, -1, -1):
            pattern = node(LABELS[at], row(1), pattern) if at == 0 else node(LABELS[at], pattern)
        told = ask_about(DEEP, pattern, ways(0, 0), fill(0, 0, 0, 1), fill(0, 0, 0, 3))
        self.assertEqual(told, [[1], [1, 1, 0], [1, 30, 1]])

    def test_two_deep_trees_alike_but_for_the_last_node(self):
        labels = list(range(127))
        same = node(1, chain(labels), chain(labels))
        other = node(1, chain(labels), chain(labels[:-1] + [0]))
        self.assertEqual(ask_about(same, node(1, one(1), one(1)), ways(0, 0)), [[1]])
        self.assertEqual(ask_about(other, node(1, one(1), one(1)), ways(0, 0)), [[0]])


class Wide(unittest.TestCase):
    def test_three_holes_of_kind_2(self):
        told = ask_about(WIDE, node(9, row(1), row(2), row(3)), ways(0, 0), find(0, 0),
                         fill(0, 0, 0, 3), fill(0, 0, 255, 2), fill(0, 0, 256, 1),
                         fill(0, 0, 32895, 1), fill(0, 0, 32895, 3), fill(0, 0, 32896, 1))
        self.assertEqual(told, [[32896], [1, 0], [1, 1, 255], [1, 1, 255], [1, 1, 1],
                                [1, 1, 255], [1, 256, 0], [0]])

    def test_two_alike_among_others(self):
        told = ask_about(WIDE, node(9, row(1), one(4), row(2), one(4), row(3)), ways(0, 0),
                         fill(0, 0, 0, 2), fill(0, 0, 6374, 1), fill(0, 0, 6375, 1))
        self.assertEqual(told, [[5 * (51 * 50 // 2)], [1, 2, 4], [1, 1, 249], [0]])

    def test_halves(self):
        told = ask_about(WIDE, node(9, row(1), row(2), row(1)), ways(0, 0), fill(0, 0, 1, 2))
        self.assertEqual(told, [[26], [1, 6, 245]])

    def test_single_holes(self):
        told = ask_about(WIDE, node(9, *[one(k) for k in range(30)], row(30)), fill(0, 0, 0, 29), fill(0, 0, 0, 30))
        self.assertEqual(told, [[1, 30, 1], [1, 31, 225]])

    def test_nothing_matches(self):
        pattern = node(9, row(1), row(2), row(3), *[node(k % 5) for k in range(3, 30)], node(3))
        self.assertEqual(ask_about(WIDE, pattern, find(0, 0), ways(0, 0)), [[0], [0]])

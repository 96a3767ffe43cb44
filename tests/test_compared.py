"""Promises 1, 2 and 5 once more: all small patterns on all small trees, and larger ones, against a plain search."""

import itertools
import unittest

from tests.helper import (LEAVES, Made, Numbered, ask, fill, find, is_allowed, node, one, plain_ways, row, rule,
                          shapes_of, tree, ways)

HOLES = [one(1), one(3), row(2), row(4)]


class Compared(unittest.TestCase):
    def compare(self, shape, patterns):
        """At every node of the shape: the next place, how many ways, and what each way fills each hole with."""
        nodes = Numbered(shape, 0).nodes()
        calls = []
        expected = []
        for k, pattern in enumerate(patterns):
            told = [plain_ways(pattern, numbered) for numbered in nodes]
            places = [i for i in range(len(nodes)) if told[i]]
            for i, found in enumerate(told):
                later = [place for place in places if place >= i]
                calls.extend([find(k, i), ways(k, i)])
                expected.extend([[1, later[0]] if later else [0], [len(found)]])
                for w, filled in enumerate(found):
                    for h in filled:
                        calls.append(fill(k, i, w, h))
                        expected.append([1, filled[h][0], filled[h][1]])
        self.assertEqual(self.told(shape, patterns, calls), expected, (shape, patterns))

    def told(self, shape, patterns, calls):
        """The answers to the calls, no more than 400 of them to a list."""
        before = [tree(shape)] + [rule(pattern) for pattern in patterns]
        told = []
        for at in range(0, len(calls), 400 - len(before)):
            parts = ask(*before, *calls[at:at + 400 - len(before)])
            self.assertEqual(parts[:len(before)], [[0]] + [[k] for k in range(len(patterns))])
            told.extend(parts[len(before):])
        return told

    def test_all_small_ones(self):
        patterns = [shape for size in (1, 2, 3, 4) for shape in shapes_of(size, LEAVES + HOLES) if is_allowed(shape)]
        shapes = [shape for size in (1, 2, 3, 4) for shape in shapes_of(size, LEAVES)]
        self.assertEqual((len(patterns), len(shapes)), (1024, 102))
        for shape in shapes:
            for at in range(0, len(patterns), 16):
                self.compare(shape, patterns[at:at + 16])

    def test_wide_rows(self):
        parts = [node(1), one(1), row(2), row(3), row(4)]
        rows = [below for size in range(5) for below in itertools.product(parts, repeat=size)]
        patterns = [node(1, *below) for below in rows if is_allowed(node(1, *below))]
        for size in range(6):
            for below in itertools.product(LEAVES, repeat=size):
                for at in range(0, len(patterns), 16):
                    self.compare(node(1, *below), patterns[at:at + 16])

    def test_larger_ones(self):
        made = Made(7)
        for turn in range(400):
            shape = made.shape(20)
            self.compare(shape, [made.pattern(shape) for k in range(3)])

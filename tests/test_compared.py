"""Promises 1, 2 and 5 once more: all small patterns on all small trees, and larger ones, against a plain search."""

import itertools
import unittest

from tests.helper import Numbered, ask, fill, find, flat, node, one, plain_ways, row, rule, tree, ways

LEAVES = [node(1), node(2)]
HOLES = [one(1), one(3), row(2), row(4)]


def rows_of(size, leaves):
    """All rows of trees that have so many nodes together."""
    if size == 0:
        yield ()
    for first in range(1, size + 1):
        for shape in shapes_of(first, leaves):
            for others in rows_of(size - first, leaves):
                yield (shape,) + others


def shapes_of(size, leaves):
    """All trees of so many nodes with labels 1 and 2, whose leaves are of these."""
    if size == 1:
        yield from leaves
    else:
        for label in (1, 2):
            for below in rows_of(size - 1, leaves):
                yield node(label, *below)


def is_allowed(pattern):
    kinds = flat(pattern)[0::3]
    return kinds[0] != 2 and kinds.count(2) <= 3


class Compared(unittest.TestCase):
    def compare(self, shape, patterns):
        """At every node of the shape: how many ways, and what each way fills each hole with."""
        nodes = Numbered(shape, 0).nodes()
        calls = []
        expected = []
        for k, pattern in enumerate(patterns):
            told = [plain_ways(pattern, numbered) for numbered in nodes]
            places = [i for i in range(len(nodes)) if told[i]]
            calls.append(find(k, 0))
            expected.append([1, places[0]] if places else [0])
            for i, found in enumerate(told):
                calls.append(ways(k, i))
                expected.append([len(found)])
                for w, filled in enumerate(found):
                    for h in filled:
                        calls.append(fill(k, i, w, h))
                        expected.append([1, filled[h][0], filled[h][1]])
        self.assertEqual(self.told(shape, patterns, calls), expected, (shape, patterns))

    def told(self, shape, patterns, calls):
        """The answers to the calls, no more than 400 of them to a list."""
        before = [tree(shape)] + [rule(pattern) for pattern in patterns]
        told = []
        for at in range(0, len(calls), 400 - len(before)):
            parts = ask(*before, *calls[at:at + 400 - len(before)])
            self.assertEqual(parts[:len(before)], [[0]] + [[k] for k in range(len(patterns))])
            told.extend(parts[len(before):])
        return told

    def test_all_small_ones(self):
        patterns = [shape for size in (1, 2, 3, 4) for shape in shapes_of(size, LEAVES + HOLES) if is_allowed(shape)]
        shapes = [shape for size in (1, 2, 3, 4) for shape in shapes_of(size, LEAVES)]
        self.assertEqual((len(patterns), len(shapes)), (1024, 102))
        for shape in shapes:
            for at in range(0, len(patterns), 16):
                self.compare(shape, patterns[at:at + 16])

    def test_wide_rows(self):
        parts = [node(1), one(1), row(2), row(3), row(4)]
        rows = [below for size in range(5) for below in itertools.product(parts, repeat=size)]
        patterns = [node(1, *below) for below in rows if is_allowed(node(1, *below))]
        for size in range(6):
            for below in itertools.product(LEAVES, repeat=size):
                for at in range(0, len(patterns), 16):
                    self.compare(node(1, *below), patterns[at:at + 16])

    def test_larger_ones(self):
        made = Made(7)
        for turn in range(400):
            shape = made.shape(20)
            self.compare(shape, [made.pattern(shape) for k in range(3)])


class Made:
    """Shapes that look as if by chance, and are the same each time."""

    def __init__(self, start):
        self.number = start

    def below(self, bound):
        self.number = (self.number * 1103515245 + 12345) % 2147483648
        return (self.number >> 12) % bound

    def shape(self, size):
        """A tree of at most so many nodes, with parts that are alike."""
        parts = [node(1), node(2), node(1)]
        while size > 0:
            number = self.below(6)
            taken = [parts[self.below(len(parts))] for k in range(number)]
            parts.append(node(1 + self.below(2), *taken))
            size -= 3
        large = sorted(parts, key=lambda shape: len(flat(shape)))
        fitting = [shape for shape in large if len(flat(shape)) <= 75]
        return fitting[-1]

    def pattern(self, shape):
        """A part of the shape, with holes in it."""
        nodes = Numbered(shape, 0).nodes()
        inner = [numbered.shape for numbered in nodes if numbered.below]
        self.rows_left = 3
        while True:
            pattern = self.with_holes(inner[self.below(len(inner))] if inner else shape, 0)
            if len(flat(pattern)) <= 96:
                return pattern

    def with_holes(self, shape, depth):
        if depth > 0 and self.below(3) == 0:
            return one(self.below(3))
        parts = []
        for below in shape[2]:
            if self.rows_left and self.below(2) == 0:
                self.rows_left -= 1
                parts.append(row(4 + self.below(3)))
            if self.below(3) > 0:
                parts.append(self.with_holes(below, depth + 1))
        return node(shape[1], *parts)

"""All promises once more: the nine calls, on many small trees and rules, against a plain search and rewriting."""

import unittest

from tests.helper import (LEAVES, Made, Plain, apply, ask, fill, find, flat, is_allowed, node, nodes, one, row, rule,
                          run, shapes_of, step, tree, ways)

HOLES = [one(1), row(2)]


def holes_of(shape):
    numbers = flat(shape)
    return {(kind, label) for kind, label in zip(numbers[0::3], numbers[1::3]) if kind != 0}


class Series:
    """Calls one behind another, and what is to be answered to each."""

    def __init__(self):
        self.plain = Plain()
        self.calls = []
        self.expected = []

    def add(self, call, answer):
        self.calls.append(call)
        self.expected.append(answer)
        return answer

    def tree(self, shape):
        self.plain.shape = shape
        self.add(tree(shape), [0])

    def rule(self, pattern, replacement):
        self.plain.rules.append((pattern, replacement))
        self.add(rule(pattern, replacement), [len(self.plain.rules) - 1])

    def find(self, k, start):
        return self.add(find(k, start), self.plain.find(k, start))

    def ways(self, k, i):
        self.add(ways(k, i), self.plain.ways(k, i))

    def fill(self, k, i, w, h):
        return self.add(fill(k, i, w, h), self.plain.fill(k, i, w, h))

    def apply(self, k, i, w):
        return self.add(apply(k, i, w), self.plain.apply(k, i, w))

    def step(self):
        return self.add(step(), self.plain.step())

    def run(self, n):
        return self.add(run(n), self.plain.run(n))

    def nodes(self):
        return self.add(nodes(), self.plain.nodes())


class Small(unittest.TestCase):
    """Each rule of small patterns and replacements, applied wherever it may be and once where it may not."""

    def test_all_small_ones(self):
        shapes = [shape for size in (1, 2, 3) for shape in shapes_of(size, LEAVES)]
        parts = [shape for size in (1, 2, 3) for shape in shapes_of(size, LEAVES[:1] + HOLES) if is_allowed(shape)]
        rules = [(pattern, replacement) for pattern in parts for replacement in parts
                 if holes_of(replacement) <= holes_of(pattern)]
        self.assertEqual((len(shapes), len(parts), len(rules)), (22, 38, 771))
        for pattern, replacement in rules:
            for shape in shapes:
                self.compare(shape, pattern, replacement)

    def compare(self, shape, pattern, replacement):
        series = Series()
        series.rule(pattern, replacement)
        for i in range(len(flat(shape)) // 3 + 1):
            w = 0
            series.tree(shape)
            while series.apply(0, i, w) == [1]:
                series.nodes()
                series.tree(shape)
                w += 1
        series.step()
        series.nodes()
        self.assertEqual(ask(*series.calls), series.expected, series.calls)


class Larger(unittest.TestCase):
    def test_series_of_calls(self):
        made = Made(11)
        done = {"find": 0, "fill": 0, "apply": 0, "step": 0, "run": 0}
        for turn in range(400):
            world = World(made, done)
            for call in range(30):
                world.go_on()
            self.assertEqual(ask(*world.series.calls), world.series.expected, world.series.calls)
        for name in done:
            self.assertGreater(done[name], 200, name)


class World:
    """A series that looks as if by chance: a tree, most of the time, and rules that match somewhere in it."""

    def __init__(self, made, done):
        self.made = made
        self.done = done
        self.series = Series()
        self.plain = self.series.plain
        self.shape = made.shape(12)
        if made.below(4) > 0:
            self.series.tree(self.shape)
        for k in range(1 + made.below(4)):
            self.add_rule()

    def add_rule(self):
        shape = self.plain.shape or self.shape
        plain = Plain()
        plain.shape = shape
        for turn in range(5):
            pattern = self.made.pattern(shape)
            plain.rules = [(pattern, one(0))]
            if plain.find(0, 0) != [0]:
                break
        self.series.rule(pattern, self.made.replacement(pattern))

    def place(self):
        """A rule, a node and a way: mostly ones that are there, or the way just past them."""
        k = self.made.below(len(self.plain.rules) + 1)
        i = self.made.below(len(self.plain.parts()) + 1)
        w = self.made.below(3)
        if self.made.below(6) == 0:
            return k, i, w
        places = [(k, i) for k in range(len(self.plain.rules)) for i in range(len(self.plain.parts()))
                  if self.plain.ways(k, i) != [0]]
        if not places:
            return k, i, w
        k, i = places[self.made.below(len(places))]
        number = self.plain.ways(k, i)[0]
        return k, i, self.made.below(number + (w == 0))

    def hole_of(self, k):
        """The number of one of the rule's holes, or of none."""
        holes = sorted(holes_of(self.plain.rules[k][0])) if k < len(self.plain.rules) else []
        chosen = self.made.below(len(holes) + 1)
        return holes[chosen][1] if chosen < len(holes) else 99

    def go_on(self):
        """One call more, of some kind."""
        made, series = self.made, self.series
        kind = made.below(17)
        k, i, w = self.place()
        if kind in (0, 1) or len(self.plain.parts()) > 60:
            series.tree(self.shape if made.below(3) else made.shape(12))
        elif kind == 2 and len(self.plain.rules) < 8:
            self.add_rule()
        elif kind == 3:
            self.done["find"] += series.find(k, max(0, i - made.below(3)))[0]
        elif kind == 4:
            series.ways(k, i)
        elif kind in (5, 6):
            self.done["fill"] += series.fill(k, i, w, self.hole_of(k))[0]
        elif kind in (7, 8, 9, 10):
            self.done["apply"] += series.apply(k, i, w) == [1]
        elif kind in (11, 12):
            self.done["step"] += series.step()[0] >= 0
        elif kind == 13:
            self.done["run"] += series.run(made.below(5))[0]
        elif kind == 14:
            series.add(tree([0, 1, 1 + made.below(3)]), [-1])
        else:
            series.nodes()


class UpToTheBound(unittest.TestCase):
    """Rules under which a tree grows until it would be too large, in steps of many sizes."""

    def test_growing(self):
        self.reasons = {0: 0, 1: 0, 2: 0}
        self.compare(node(1, one(1)), node(1, one(1), one(1)))
        self.compare(node(1, one(1)), node(2, one(1), node(1, node(3), one(1))))
        self.compare(node(1, row(2), one(1)), node(1, one(1), node(3), row(2), row(2)))
        self.compare(node(1, row(2), one(1), node(3)), node(1, row(2), node(2, one(1)), one(1), node(3)))
        self.compare(node(3), node(4, node(3)))
        self.compare(node(3), node(4, node(4, node(4), node(4)), node(3)))
        for why in self.reasons:
            self.assertGreater(self.reasons[why], 5, why)

    def compare(self, pattern, replacement):
        series = Series()
        series.rule(pattern, replacement)
        series.rule(node(3), node(1, node(2), node(3)))
        for start in (node(1, node(1, node(2))), node(1, node(3), node(3)), node(1, *[node(1, node(3))] * 60)):
            series.tree(start)
            for n in (1, 7, 0, 30, 2):
                self.reasons[series.run(n)[1]] += 1
                series.step()
                series.nodes()
        self.assertEqual(ask(*series.calls), series.expected, series.calls)

"""What the tests share: shapes written as nested tuples, calls, and a plain search and rewriting to compare with."""

from holeshapes.shapes import answers

TOP = 4294967295


def node(label, *below):
    return (0, label, below)


def one(number):
    return (1, number, ())


def row(number):
    return (2, number, ())


def chain(labels):
    """A tree in which each node is below the one before."""
    shape = node(labels[-1])
    for label in reversed(labels[:-1]):
        shape = node(label, shape)
    return shape


def flat(shape):
    """A shape's numbers; a list is taken for numbers already."""
    if isinstance(shape, list):
        return shape
    numbers = [shape[0], shape[1], len(shape[2])]
    for below in shape[2]:
        numbers.extend(flat(below))
    return numbers


def counted(shape):
    numbers = flat(shape)
    return [len(numbers)] + numbers


def tree(shape):
    return [1] + counted(shape)


def rule(pattern, replacement=node(0)):
    return [2] + counted(pattern) + counted(replacement)


def find(k, start):
    return [3, k, start]


def ways(k, i):
    return [4, k, i]


def fill(k, i, w, h):
    return [5, k, i, w, h]


def apply(k, i, w):
    return [6, k, i, w]


def step():
    return [7]


def run(n):
    return [8, n]


def nodes():
    return [9]


def shown(shape):
    """What nodes answers of a tree."""
    numbers = flat(shape)
    told = [len(numbers) // 3]
    for at in range(0, len(numbers), 3):
        told.extend(numbers[at + 1:at + 3])
    return told


def split(told):
    """The answers one by one, from what answers gives back."""
    parts = []
    at = 0
    while at < len(told):
        parts.append(told[at + 1:at + 1 + told[at]])
        at += 1 + told[at]
    return parts


def ask(*calls):
    """The answer to each call of a list, as a list of its own."""
    numbers = []
    for call in calls:
        numbers.extend(call)
    assert len(calls) <= 400 and len(numbers) <= 30000, "more than may be handed in"
    parts = split(answers(numbers))
    assert len(parts) == len(calls), "not one answer for each call"
    return parts


def ask_about(shape, pattern, *calls):
    """The answers to calls on one tree and one rule, numbered 0."""
    parts = ask(tree(shape), rule(pattern), *calls)
    assert parts[:2] == [[0], [0]], "the tree or the rule was refused"
    return parts[2:]


def ways_everywhere(shape, pattern):
    """How many ways the pattern has at each node of the shape."""
    size = len(flat(shape)) // 3
    return [part[0] for part in ask_about(shape, pattern, *[ways(0, i) for i in range(size)])]


def fillings(shape, pattern, i, holes):
    """For each way at node i: what each of the holes is filled with."""
    number = ask_about(shape, pattern, ways(0, i))[0][0]
    calls = [fill(0, i, w, h) for w in range(number) for h in holes]
    parts = ask_about(shape, pattern, *calls)
    return [parts[w * len(holes):(w + 1) * len(holes)] for w in range(number)]


# A plain search, as the document tells it: all fillings are tried, then sorted.

class Numbered:
    """A tree's node with its number and the number behind all that's below it."""

    def __init__(self, shape, number):
        self.shape = shape
        self.number = number
        self.below = []
        self.end = number + 1
        for child in shape[2]:
            self.below.append(Numbered(child, self.end))
            self.end = self.below[-1].end

    def nodes(self):
        found = [self]
        for child in self.below:
            found.extend(child.nodes())
        return found


def row_fillings(patterns, trees, here):
    if not patterns:
        if not trees:
            yield ((), ())
        return
    kind, label, below = patterns[0]
    if kind == 2:
        for taken in range(len(trees) + 1):
            behind = trees[taken - 1].end if taken else here
            for lengths, filled in row_fillings(patterns[1:], trees[taken:], behind):
                yield ((taken,) + lengths, ((label, here, trees[:taken]),) + filled)
    elif trees and kind == 1:
        for lengths, filled in row_fillings(patterns[1:], trees[1:], trees[0].end):
            yield (lengths, ((label, trees[0].number, trees[:1]),) + filled)
    elif trees and trees[0].shape[1] == label:
        for lengths, filled in row_fillings(below, trees[0].below, trees[0].number + 1):
            for more, others in row_fillings(patterns[1:], trees[1:], trees[0].end):
                yield (lengths + more, filled + others)


def plain_ways(pattern, numbered):
    """The pattern's ways at a node, in order: of each hole's number its first node and how many trees."""
    found = []
    for lengths, filled in row_fillings([pattern], [numbered], numbered.number):
        stands_for = {}
        places = {}
        alike = True
        for label, first, trees in filled:
            shapes = [part.shape for part in trees]
            alike = alike and stands_for.setdefault(label, shapes) == shapes
            places.setdefault(label, (first, len(trees)))
        if alike:
            found.append((lengths, places))
    return [places for lengths, places in sorted(found, key=lambda way: way[0])]


# A plain rewriting: what the holes stand for is put together as nested tuples again.

def row_at(parts, first, number):
    """So many neighbouring trees' shapes, from the node first on."""
    shapes = []
    for turn in range(number):
        shapes.append(parts[first].shape)
        first = parts[first].end
    return shapes


def plain_filled(replacement, stands_for):
    """The row of trees that the replacement becomes."""
    kind, label, below = replacement
    if kind != 0:
        return stands_for[label]
    parts = []
    for part in below:
        parts.extend(plain_filled(part, stands_for))
    return [node(label, *parts)]


def with_other_at(numbered, i, other):
    """The tree's shape, with another one in the place of node i."""
    if numbered.number == i:
        return other
    return node(numbered.shape[1], *[with_other_at(part, i, other) for part in numbered.below])


class Plain:
    """All that the document tells of apply, step, run and nodes, and of find, ways and fill, done the long way."""

    def __init__(self):
        self.shape = None
        self.rules = []

    def parts(self):
        return [] if self.shape is None else Numbered(self.shape, 0).nodes()

    def ways_of(self, k, i):
        parts = self.parts()
        if k >= len(self.rules) or i >= len(parts):
            return []
        return plain_ways(self.rules[k][0], parts[i])

    def find(self, k, start):
        for i in range(start, len(self.parts())):
            if self.ways_of(k, i):
                return [1, i]
        return [0]

    def ways(self, k, i):
        return [len(self.ways_of(k, i))]

    def fill(self, k, i, w, h):
        found = self.ways_of(k, i)
        if w >= len(found) or h not in found[w]:
            return [0]
        return [1, *found[w][h]]

    def apply(self, k, i, w):
        found = self.ways_of(k, i)
        if w >= len(found):
            return [0]
        parts = self.parts()
        stands_for = {h: row_at(parts, first, number) for h, (first, number) in found[w].items()}
        other = plain_filled(self.rules[k][1], stands_for)
        shape = with_other_at(parts[0], i, other[0])
        if len(flat(shape)) > 3 * 256:
            return [-3]
        self.shape = shape
        return [1]

    def step(self):
        for i in range(len(self.parts())):
            for k in range(len(self.rules)):
                if self.ways_of(k, i):
                    told = self.apply(k, i, 0)
                    return [k] if told == [1] else told
        return [-1]

    def run(self, n):
        if n > 200:
            return [-1]
        for done in range(n):
            told = self.step()
            if told[0] < 0:
                return [done, {-1: 0, -3: 2}[told[0]]]
        return [n, 1]

    def nodes(self):
        return [0] if self.shape is None else shown(self.shape)


# Many shapes to compare on.

LEAVES = [node(1), node(2)]


def rows_of(size, leaves):
    """All rows of trees that have so many nodes together."""
    if size == 0:
        yield ()
    for first in range(1, size + 1):
        for shape in shapes_of(first, leaves):
            for others in rows_of(size - first, leaves):
                yield (shape,) + others


def shapes_of(size, leaves):
    """All trees of so many nodes with labels 1 and 2, whose leaves are of these."""
    if size == 1:
        yield from leaves
    else:
        for label in (1, 2):
            for below in rows_of(size - 1, leaves):
                yield node(label, *below)


def is_allowed(pattern):
    kinds = flat(pattern)[0::3]
    return kinds[0] != 2 and kinds.count(2) <= 3


class Made:
    """Shapes that look as if by chance, and are the same each time."""

    def __init__(self, start):
        self.number = start

    def below(self, bound):
        self.number = (self.number * 1103515245 + 12345) % 2147483648
        return (self.number >> 12) % bound

    def shape(self, size):
        """A tree of at most so many nodes, with parts that are alike."""
        parts = [node(1), node(2), node(1)]
        while size > 0:
            number = self.below(6)
            taken = [parts[self.below(len(parts))] for k in range(number)]
            parts.append(node(1 + self.below(2), *taken))
            size -= 3
        large = sorted(parts, key=lambda shape: len(flat(shape)))
        fitting = [shape for shape in large if len(flat(shape)) <= 75]
        return fitting[-1]

    def pattern(self, shape):
        """A part of the shape, with holes in it."""
        nodes = Numbered(shape, 0).nodes()
        inner = [numbered.shape for numbered in nodes if numbered.below]
        self.rows_left = 3
        while True:
            pattern = self.with_holes(inner[self.below(len(inner))] if inner else shape, 0)
            if len(flat(pattern)) <= 96:
                return pattern

    def with_holes(self, shape, depth):
        if depth > 0 and self.below(3) == 0:
            return one(self.below(3))
        parts = []
        for below in shape[2]:
            if self.rows_left and self.below(2) == 0:
                self.rows_left -= 1
                parts.append(row(4 + self.below(3)))
            if self.below(3) > 0:
                parts.append(self.with_holes(below, depth + 1))
        return node(shape[1], *parts)

    def replacement(self, pattern):
        """A tree with holes of the pattern in it, each any number of times."""
        numbers = flat(pattern)
        holes = [(kind, label, ()) for kind, label in zip(numbers[0::3], numbers[1::3]) if kind != 0]
        singles = [hole for hole in holes if hole[0] == 1]
        if singles and self.below(4) == 0:
            return singles[self.below(len(singles))]
        return self.around_holes(holes, 0)

    def around_holes(self, holes, depth):
        parts = []
        for turn in range(self.below(4)):
            if holes and self.below(4) > 0:
                parts.append(holes[self.below(len(holes))])
            elif depth < 2:
                parts.append(self.around_holes(holes, depth + 1))
        return node(1 + self.below(3), *parts)

"""What the tests share: shapes written as nested tuples, calls, and a plain search to compare with."""

from holeshapes.shapes import answers

TOP = 4294967295


def node(label, *below):
    return (0, label, below)


def one(number):
    return (1, number, ())


def row(number):
    return (2, number, ())


def chain(labels):
    """A tree in which each node is below the one before."""
    shape = node(labels[-1])
    for label in reversed(labels[:-1]):
        shape = node(label, shape)
    return shape


def flat(shape):
    """A shape's numbers; a list is taken for numbers already."""
    if isinstance(shape, list):
        return shape
    numbers = [shape[0], shape[1], len(shape[2])]
    for below in shape[2]:
        numbers.extend(flat(below))
    return numbers


def counted(shape):
    numbers = flat(shape)
    return [len(numbers)] + numbers


def tree(shape):
    return [1] + counted(shape)


def rule(pattern, replacement=node(0)):
    return [2] + counted(pattern) + counted(replacement)


def find(k, start):
    return [3, k, start]


def ways(k, i):
    return [4, k, i]


def fill(k, i, w, h):
    return [5, k, i, w, h]


def split(told):
    """The answers one by one, from what answers gives back."""
    parts = []
    at = 0
    while at < len(told):
        parts.append(told[at + 1:at + 1 + told[at]])
        at += 1 + told[at]
    return parts


def ask(*calls):
    """The answer to each call of a list, as a list of its own."""
    numbers = []
    for call in calls:
        numbers.extend(call)
    assert len(calls) <= 400 and len(numbers) <= 30000, "more than may be handed in"
    parts = split(answers(numbers))
    assert len(parts) == len(calls), "not one answer for each call"
    return parts


def ask_about(shape, pattern, *calls):
    """The answers to calls on one tree and one rule, numbered 0."""
    parts = ask(tree(shape), rule(pattern), *calls)
    assert parts[:2] == [[0], [0]], "the tree or the rule was refused"
    return parts[2:]


def ways_everywhere(shape, pattern):
    """How many ways the pattern has at each node of the shape."""
    size = len(flat(shape)) // 3
    return [part[0] for part in ask_about(shape, pattern, *[ways(0, i) for i in range(size)])]


def fillings(shape, pattern, i, holes):
    """For each way at node i: what each of the holes is filled with."""
    number = ask_about(shape, pattern, ways(0, i))[0][0]
    calls = [fill(0, i, w, h) for w in range(number) for h in holes]
    parts = ask_about(shape, pattern, *calls)
    return [parts[w * len(holes):(w + 1) * len(holes)] for w in range(number)]


# A plain search, as the document tells it: all fillings are tried, then sorted.

class Numbered:
    """A tree's node with its number and the number behind all that's below it."""

    def __init__(self, shape, number):
        self.shape = shape
        self.number = number
        self.below = []
        self.end = number + 1
        for child in shape[2]:
            self.below.append(Numbered(child, self.end))
            self.end = self.below[-1].end

    def nodes(self):
        found = [self]
        for child in self.below:
            found.extend(child.nodes())
        return found


def row_fillings(patterns, trees, here):
    if not patterns:
        if not trees:
            yield ((), ())
        return
    kind, label, below = patterns[0]
    if kind == 2:
        for taken in range(len(trees) + 1):
            behind = trees[taken - 1].end if taken else here
            for lengths, filled in row_fillings(patterns[1:], trees[taken:], behind):
                yield ((taken,) + lengths, ((label, here, trees[:taken]),) + filled)
    elif trees and kind == 1:
        for lengths, filled in row_fillings(patterns[1:], trees[1:], trees[0].end):
            yield (lengths, ((label, trees[0].number, trees[:1]),) + filled)
    elif trees and trees[0].shape[1] == label:
        for lengths, filled in row_fillings(below, trees[0].below, trees[0].number + 1):
            for more, others in row_fillings(patterns[1:], trees[1:], trees[0].end):
                yield (lengths + more, filled + others)


def plain_ways(pattern, numbered):
    """The pattern's ways at a node, in order: of each hole's number its first node and how many trees."""
    found = []
    for lengths, filled in row_fillings([pattern], [numbered], numbered.number):
        stands_for = {}
        places = {}
        alike = True
        for label, first, trees in filled:
            shapes = [part.shape for part in trees]
            alike = alike and stands_for.setdefault(label, shapes) == shapes
            places.setdefault(label, (first, len(trees)))
        if alike:
            found.append((lengths, places))
    return [places for lengths, places in sorted(found, key=lambda way: way[0])]

"""Patterns and replacements: which are refused, what a search has to know of a pattern, how a replacement is filled."""

from holeshapes.trees import Layout, is_one_tree

NODE = 0
HOLE = 1
STRETCH = 2
MOST_PATTERN_NUMBERS = 96
MOST_STRETCHES = 3


def is_row_with_holes(numbers):
    """Whether the numbers are as a pattern's and a replacement's must both be."""
    if len(numbers) > MOST_PATTERN_NUMBERS or not is_one_tree(numbers):
        return False
    if numbers[0] == STRETCH:
        return False
    for kind, below in zip(numbers[0::3], numbers[2::3]):
        if kind > STRETCH or (kind != NODE and below != 0):
            return False
    return True


def holes_in(numbers):
    """The number and the kind of each hole, in order."""
    return [(label, kind) for kind, label in zip(numbers[0::3], numbers[1::3]) if kind != NODE]


def has_number_of_both_kinds(numbers):
    kinds = {}
    for label, kind in holes_in(numbers):
        if kinds.setdefault(label, kind) != kind:
            return True
    return False


def is_pattern(numbers):
    """Whether the numbers are a pattern."""
    if not is_row_with_holes(numbers):
        return False
    if numbers[0::3].count(STRETCH) > MOST_STRETCHES:
        return False
    return not has_number_of_both_kinds(numbers)


def rule_refusal(pattern, replacement):
    """The number that refuses these two as a rule, whatever rules there are; 0 if they are one."""
    if not is_pattern(pattern) or not is_row_with_holes(replacement):
        return -1
    kinds = dict(holes_in(pattern))
    for label, kind in holes_in(replacement):
        if kinds.get(label) != kind:
            return -2
    return 0


def until_stretch(pattern, row):
    """What stands in the row before its first hole of kind 2."""
    for index, at in enumerate(row):
        if pattern.kinds[at] == STRETCH:
            return row[:index]
    return row


class Gap:
    """What bounds how many trees a hole of kind 2 can take: what stands behind it in its row."""

    def __init__(self, pattern, hole):
        own = pattern.labels[hole]
        row = pattern.rows[pattern.above[hole]]
        behind = row[pattern.places[hole] + 1:]
        stretches = [pattern.labels[other] for other in behind if pattern.kinds[other] == STRETCH]
        self.segment = until_stretch(pattern, behind)
        self.singles = len(behind) - len(stretches)
        self.times = 1 + stretches.count(own)
        others = [label for label in stretches if label != own]
        self.known = [pattern.slots[label] for label in others if pattern.firsts[label] < hole]
        self.settles = len(self.known) == len(others)


class Pattern(Layout):
    """A pattern, made ready for searching."""

    def __init__(self, numbers):
        Layout.__init__(self, numbers)
        self.holes = [at for at in range(self.size) if self.kinds[at] != NODE]
        self.firsts = {}
        self.lasts = {}
        self.slots = {}
        self.note_holes()
        self.shuts = self.rows_shut()
        self.halts = [kind == STRETCH for kind in self.kinds] + [True]
        self.gaps = [Gap(self, at) if self.halts[at] else None for at in range(self.size)]

    def note_holes(self):
        """Only a number that is met again needs a slot in which a search holds its filling."""
        for hole in self.holes:
            self.firsts.setdefault(self.labels[hole], hole)
            self.lasts[self.labels[hole]] = hole
        for label in self.firsts:
            if self.firsts[label] != self.lasts[label]:
                self.slots[label] = len(self.slots)

    def rows_shut(self):
        """How many rows end before each node, and behind the last one."""
        shuts = []
        depths = []
        inside = 0
        for at in range(self.size):
            depth = depths[self.above[at]] + 1 if at > 0 else 0
            depths.append(depth)
            shuts.append(inside - depth)
            inside = depth + 1 if self.kinds[at] == NODE else depth
        return shuts + [inside]


class Replacement(Layout):
    """A replacement, made ready for being filled."""

    def trees_for(self, at, fillings):
        """How many trees stand where the replacement's node at does."""
        return 1 if self.kinds[at] == NODE else fillings[self.labels[at]][1]

    def filled(self, tree, fillings):
        """The numbers of the replacement, its holes being what they stand for in the tree."""
        numbers = []
        for at, kind in enumerate(self.kinds):
            if kind == NODE:
                below = sum([self.trees_for(child, fillings) for child in self.rows[at]])
                numbers.extend([NODE, self.labels[at], below])
            else:
                filling = fillings[self.labels[at]]
                numbers.extend(tree.numbers_of(filling[0], filling[1]))
        return numbers

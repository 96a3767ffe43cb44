"""The search for one pattern's ways in one tree.

A state is a tuple: the pattern's node that comes next; the tree's node in whose row the
search stands; the place there; what the numbers met again are held to. Nothing else bears
on what can still match, so what is found out about a state is kept for it. Only holes of
kind 2 leave a choice, and there are three at most: so deep are calls within one another.
"""

from holeshapes.patterns import HOLE, NODE


class Search:
    """One pattern and one tree, neither of which changes."""

    def __init__(self, pattern, tree):
        self.pattern = pattern
        self.tree = tree
        self.tallies = {}
        self.verdicts = {}
        self.hopeless = {}

    def begin(self, node):
        """The state in which the whole pattern is still to be matched at node."""
        return (0, self.tree.above[node], self.tree.places[node], (None,) * len(self.pattern.slots))

    def shut_rows(self, node, index, times):
        """Where the search stands when so many rows have ended; None if a tree is left in one."""
        for level in range(times):
            if index != len(self.tree.rows[node]):
                return None
            index = self.tree.places[node] + 1
            node = self.tree.above[node]
        return (node, index)

    def hold(self, held, at, like):
        """What is held once hole at is filled; None if its number stands for something else.

        Behind a number's last place nothing is held for it, so that more states are the same.
        """
        slot = self.pattern.slots.get(self.pattern.labels[at])
        if slot is None:
            return held
        if held[slot] is not None and held[slot] != like:
            return None
        kept = None if self.pattern.lasts[self.pattern.labels[at]] == at else like
        return held[:slot] + (kept,) + held[slot + 1:]

    def walk(self, state, target):
        """Match on up to the next hole of kind 2, the pattern's end or its node target.

        Gives back that spot, the rows that end before it shut; None if something doesn't match.
        """
        pattern = self.pattern
        at = state[0]
        held = state[3]
        spot = self.shut_rows(state[1], state[2], pattern.shuts[at])
        while spot is not None and at != target and not pattern.halts[at]:
            row = self.tree.rows[spot[0]]
            if spot[1] == len(row):
                return None
            child = row[spot[1]]
            if pattern.kinds[at] == HOLE:
                held = self.hold(held, at, self.tree.likes[child])
                if held is None:
                    return None
                spot = (spot[0], spot[1] + 1)
            elif pattern.labels[at] == self.tree.labels[child]:
                spot = (child, 0)
            else:
                return None
            at += 1
            spot = self.shut_rows(spot[0], spot[1], pattern.shuts[at])
        return None if spot is None else (at, spot[0], spot[1], held)

    def lengths(self, spot):
        """How many trees the hole of kind 2 at the spot might take, fewer first."""
        held = spot[3]
        at = spot[0]
        label = self.pattern.labels[at]
        if self.pattern.firsts[label] < at:
            return [len(held[self.pattern.slots[label]])]
        gap = self.pattern.gaps[at]
        spare = len(self.tree.rows[spot[1]]) - spot[2] - gap.singles
        spare -= sum([len(held[slot]) for slot in gap.known])
        if not gap.settles:
            return self.sift(spot, gap.segment, list(range(spare // gap.times + 1)))
        if spare < 0 or spare % gap.times != 0:
            return []
        return [spare // gap.times]

    def sift(self, spot, segment, lengths):
        """The lengths behind which the pattern's segment may stand, told by a glance along the row.

        Where most lengths lead nowhere, that's far sooner done than walking on from each.
        """
        for ahead, item in enumerate(segment):
            start = spot[2] + ahead
            if self.pattern.kinds[item] == NODE:
                marks = self.tree.row_labels[spot[1]]
                mark = self.pattern.labels[item]
            else:
                marks = self.tree.row_likes[spot[1]]
                slot = self.pattern.slots.get(self.pattern.labels[item])
                mark = None if slot is None else spot[3][slot]
            # A number that isn't met yet may stand for anything.
            if mark is not None:
                lengths = [length for length in lengths if marks[start + length] == mark]
        return lengths

    def choices(self, spot):
        """The states behind the hole of kind 2 at the spot, in the order of the ways."""
        at = spot[0]
        node = spot[1]
        index = spot[2]
        if self.pattern.labels[at] not in self.pattern.slots:
            return [(at + 1, node, index + length, spot[3]) for length in self.lengths(spot)]
        states = []
        for length in self.lengths(spot):
            held = self.hold(spot[3], at, self.tree.row_likes[node][index:index + length])
            if held is not None:
                states.append((at + 1, node, index + length, held))
        return states

    def matches(self, state):
        """Whether there is a way on from the state."""
        known = self.verdicts.get(state)
        if known is None:
            known = self.seek(state)
            self.verdicts[state] = known
        return known

    def seek(self, state):
        spot = self.walk(state, self.pattern.size)
        if spot is None:
            return False
        if spot[0] == self.pattern.size:
            return True
        if self.is_hopeless(spot):
            return False
        for after in self.choices(spot):
            if self.matches(after):
                return True
        self.hopeless[(spot[0], spot[1], spot[3])] = spot[2]
        return False

    def is_hopeless(self, spot):
        """Whether the hole at the spot, begun further to the front, has led nowhere.

        What it may take from here it might have taken from there too, with what is between, unless
        its number is met again: then what it takes matters, not only where it ends.
        """
        if self.pattern.labels[spot[0]] in self.pattern.slots:
            return False
        return spot[2] >= self.hopeless.get((spot[0], spot[1], spot[3]), spot[2] + 1)

    def tally(self, state):
        """How many ways there are on from the state."""
        known = self.tallies.get(state)
        if known is None:
            known = self.add_up(state)
            self.tallies[state] = known
        return known

    def add_up(self, state):
        spot = self.walk(state, self.pattern.size)
        if spot is None:
            return 0
        if spot[0] == self.pattern.size:
            return 1
        return sum([self.tally(after) for after in self.choices(spot)])

    def matches_at(self, node):
        """Whether there is a way at node."""
        # Most nodes bear another label; a glance at it spares the rest.
        if self.pattern.kinds[0] == NODE and self.pattern.labels[0] != self.tree.labels[node]:
            return False
        return self.matches(self.begin(node))

    def has_way(self, state, way):
        """Whether there is a way of that number on from the state."""
        # Whether there is a first one is told sooner than how many there are.
        return self.matches(state) if way == 0 else way < self.tally(state)

    def pick(self, spot, way):
        """The state behind the spot's hole in that way on from it, and that way's number on from there."""
        for after in self.choices(spot):
            if self.has_way(after, way):
                return (after, way)
            if way > 0:
                way -= self.tally(after)
        return None

    def fillings(self, node, way):
        """What a way that's there at node fills each number's first hole with: first node, how many trees."""
        found = {}
        state = self.begin(node)
        for hole in self.pattern.holes:
            spot = self.walk(state, hole)
            first = self.tree.node_at(spot[1], spot[2])
            if self.pattern.kinds[hole] == HOLE:
                state = (hole + 1, spot[1], spot[2] + 1, self.hold(spot[3], hole, self.tree.likes[first]))
            else:
                picked = self.pick(spot, way)
                state = picked[0]
                way = picked[1]
            found.setdefault(self.pattern.labels[hole], (first, state[2] - spot[2]))
        return found

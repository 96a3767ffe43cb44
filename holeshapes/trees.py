"""Trees: rows of nodes, each before its children, three numbers for each node."""

MOST_TREE_NUMBERS = 768


def is_one_tree(numbers):
    """Whether the numbers are whole nodes that make up just one tree."""
    if len(numbers) % 3 != 0:
        return False
    missing = 1
    for below in numbers[2::3]:
        if missing == 0:
            return False
        missing += below - 1
    return missing == 0


def tree_refusal(numbers):
    """The number that refuses these as a tree, 0 if they are one."""
    if len(numbers) > MOST_TREE_NUMBERS:
        return -3
    if not is_one_tree(numbers):
        return -1
    if any([kind != 0 for kind in numbers[0::3]]):
        return -1
    return 0


class Layout:
    """The nodes of one tree, a pattern's and a replacement's too, and who stands below whom.

    The first node stands alone in a row below a node that isn't there, numbered like
    the size: so every node has a row to stand in, and a place in it.
    """

    def __init__(self, numbers):
        self.kinds = numbers[0::3]
        self.labels = numbers[1::3]
        self.size = len(self.labels)
        self.rows = [[] for node in range(self.size + 1)]
        self.above = []
        self.places = []
        wanted = numbers[2::3] + [1]
        unfilled = [self.size]
        for node in range(self.size):
            while len(self.rows[unfilled[-1]]) == wanted[unfilled[-1]]:
                unfilled.pop()
            upper = unfilled[-1]
            self.above.append(upper)
            self.places.append(len(self.rows[upper]))
            self.rows[upper].append(node)
            unfilled.append(node)


class Tree(Layout):
    """A tree that can be asked which of its parts are alike.

    seen keeps the number under which each part was met; trees that share it can be compared.
    """

    def __init__(self, numbers, seen):
        Layout.__init__(self, numbers)
        self.numbers = numbers
        self.ends = [0] * self.size
        self.likes = [0] * self.size
        self.row_likes = [()] * self.size
        self.row_labels = [()] * self.size
        self.mark_from_below(seen)

    def mark_from_below(self, seen):
        """Number what is alike alike, so that two trees are compared by one number each."""
        for node in range(self.size - 1, -1, -1):
            row = self.rows[node]
            self.ends[node] = self.ends[row[-1]] if row else node + 1
            self.row_labels[node] = tuple([self.labels[child] for child in row])
            self.row_likes[node] = tuple([self.likes[child] for child in row])
            self.likes[node] = seen.setdefault((self.labels[node], self.row_likes[node]), len(seen))

    def node_at(self, node, index):
        """The node at that place below node, or the one that would stand there behind the last."""
        row = self.rows[node]
        return row[index] if index < len(row) else self.ends[node]

    def numbers_of(self, first, times):
        """The numbers of so many neighbouring trees, from the one at node first on."""
        end = first
        for turn in range(times):
            end = self.ends[end]
        return self.numbers[3 * first:3 * end]

    def numbers_with(self, node, others):
        """The tree's numbers, with others where those of the tree at node are."""
        return self.numbers[:3 * node] + others + self.numbers[3 * self.ends[node]:]

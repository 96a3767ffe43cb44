"""The calls on a tree and its rules, handed in and answered as one list of numbers."""

from holeshapes.matching import Search
from holeshapes.patterns import Pattern, Replacement, rule_refusal
from holeshapes.trees import MOST_TREE_NUMBERS, Tree, tree_refusal

TREE = 1
RULE = 2
FIND = 3
WAYS = 4
FILL = 5
APPLY = 6
STEP = 7
RUN = 8
NODES = 9
MOST_RULES = 16
MOST_STEPS = 200


class UnknownCall(ValueError):
    """A call's number that stands for no call."""


class Reader:
    """A list of numbers, read from front to back."""

    def __init__(self, numbers):
        self.numbers = numbers
        self.position = 0

    def has_more(self):
        return self.position < len(self.numbers)

    def take_numbers(self, times):
        start = self.position
        self.position += times
        return self.numbers[start:self.position]

    def take_number(self):
        return self.take_numbers(1)[0]

    def take_row(self):
        return self.take_numbers(self.take_number())


class Shapes:
    """A tree, if there is one yet, and the rules."""

    def __init__(self):
        self.tree = None
        self.patterns = []
        self.replacements = []
        self.searches = {}
        self.seen = {}
        self.first_rules = {}

    def put_tree(self, numbers):
        self.tree = Tree(numbers, self.seen)
        self.searches = {}

    def change_tree(self, numbers):
        refusal = tree_refusal(numbers)
        if refusal == 0:
            self.put_tree(numbers)
        return refusal

    def add_rule(self, pattern, replacement):
        refusal = rule_refusal(pattern, replacement)
        if refusal != 0:
            return refusal
        if len(self.patterns) == MOST_RULES:
            return -3
        self.patterns.append(Pattern(pattern))
        self.replacements.append(Replacement(replacement))
        self.first_rules = {}
        return len(self.patterns) - 1

    def search_for(self, rule):
        """The search for that rule's pattern; None if there is no such rule or no tree."""
        if self.tree is None or rule >= len(self.patterns):
            return None
        if rule not in self.searches:
            self.searches[rule] = Search(self.patterns[rule], self.tree)
        return self.searches[rule]

    def find_node(self, rule, start):
        search = self.search_for(rule)
        if search is None:
            return [0]
        for node in range(start, self.tree.size):
            if search.matches_at(node):
                return [1, node]
        return [0]

    def count_ways(self, rule, node):
        search = self.search_for(rule)
        if search is None or node >= self.tree.size:
            return 0
        return search.tally(search.begin(node))

    def has_way(self, rule, node, way):
        search = self.search_for(rule)
        return search is not None and node < self.tree.size and search.has_way(search.begin(node), way)

    def tell_filling(self, rule, node, way, number):
        if not self.has_way(rule, node, way):
            return [0]
        filling = self.search_for(rule).fillings(node, way).get(number)
        return [0] if filling is None else [1, filling[0], filling[1]]

    def rewrite(self, rule, node, way):
        """Rewrite in a way that's there; False, and nothing has changed, if the tree would be too large."""
        fillings = self.search_for(rule).fillings(node, way)
        filled = self.replacements[rule].filled(self.tree, fillings)
        numbers = self.tree.numbers_with(node, filled)
        if len(numbers) > MOST_TREE_NUMBERS:
            return False
        self.put_tree(numbers)
        return True

    def apply_rule(self, rule, node, way):
        if not self.has_way(rule, node, way):
            return 0
        return 1 if self.rewrite(rule, node, way) else -3

    def seek_rule(self, node):
        """The first rule that matches at node; None if none does."""
        for rule in range(len(self.patterns)):
            if self.search_for(rule).matches_at(node):
                return rule
        return None

    def first_rule(self, node):
        """As seek_rule, but trees that are alike are looked at once: a step leaves most of them as they were."""
        like = self.tree.likes[node]
        if like not in self.first_rules:
            self.first_rules[like] = self.seek_rule(node)
        return self.first_rules[like]

    def next_place(self):
        """The rule and the node of the next step; None if no rule matches."""
        if self.tree is None:
            return None
        for node in range(self.tree.size):
            rule = self.first_rule(node)
            if rule is not None:
                return (rule, node)
        return None

    def take_step(self):
        place = self.next_place()
        if place is None:
            return -1
        return place[0] if self.rewrite(place[0], place[1], 0) else -3

    def run_steps(self, most):
        if most > MOST_STEPS:
            return [-1]
        for done in range(most):
            step = self.take_step()
            if step < 0:
                return [done, 0 if step == -1 else 2]
        return [most, 1]

    def tell_nodes(self):
        if self.tree is None:
            return [0]
        told = [self.tree.size]
        for node in range(self.tree.size):
            told.extend([self.tree.labels[node], len(self.tree.rows[node])])
        return told


def answer_call(shapes, reader):
    """Read one call, and give back the numbers that answer it."""
    call = reader.take_number()
    if call == TREE:
        return [shapes.change_tree(reader.take_row())]
    if call == RULE:
        pattern = reader.take_row()
        return [shapes.add_rule(pattern, reader.take_row())]
    if call == FIND:
        numbers = reader.take_numbers(2)
        return shapes.find_node(numbers[0], numbers[1])
    if call == WAYS:
        numbers = reader.take_numbers(2)
        return [shapes.count_ways(numbers[0], numbers[1])]
    if call == FILL:
        numbers = reader.take_numbers(4)
        return shapes.tell_filling(numbers[0], numbers[1], numbers[2], numbers[3])
    if call == APPLY:
        numbers = reader.take_numbers(3)
        return [shapes.apply_rule(numbers[0], numbers[1], numbers[2])]
    if call == STEP:
        return [shapes.take_step()]
    if call == RUN:
        return shapes.run_steps(reader.take_number())
    if call == NODES:
        return shapes.tell_nodes()
    raise UnknownCall(f"no call has the number {call}")


def answers(calls):
    """Answer the calls of a list, one behind another, on a new tree and new rules."""
    reader = Reader(calls)
    shapes = Shapes()
    told = []
    while reader.has_more():
        answer = answer_call(shapes, reader)
        told.append(len(answer))
        told.extend(answer)
    return told

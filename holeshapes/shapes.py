"""The calls on a tree and its rules, handed in and answered as one list of numbers."""

from holeshapes.matching import Search
from holeshapes.patterns import Pattern, rule_refusal
from holeshapes.trees import Tree, tree_refusal

TREE = 1
RULE = 2
FIND = 3
WAYS = 4
FILL = 5
MOST_RULES = 16


class UnknownCall(ValueError):
    """A call's number that stands for no call."""


class Reader:
    """A list of numbers, read from front to back."""

    def __init__(self, numbers):
        self.numbers = numbers
        self.position = 0

    def has_more(self):
        return self.position < len(self.numbers)

    def take_number(self):
        number = self.numbers[self.position]
        self.position += 1
        return number

    def take_row(self):
        start = self.position + 1
        self.position = start + self.numbers[start - 1]
        return self.numbers[start:self.position]


class Shapes:
    """A tree, if there is one yet, and the rules."""

    def __init__(self):
        self.tree = None
        self.patterns = []
        self.searches = {}

    def change_tree(self, numbers):
        refusal = tree_refusal(numbers)
        if refusal == 0:
            self.tree = Tree(numbers)
            self.searches = {}
        return [refusal]

    def add_rule(self, pattern, replacement):
        refusal = rule_refusal(pattern, replacement)
        if refusal != 0:
            return [refusal]
        if len(self.patterns) == MOST_RULES:
            return [-3]
        self.patterns.append(Pattern(pattern))
        return [len(self.patterns) - 1]

    def search_for(self, rule):
        """The search for that rule's pattern; None if there is no such rule or no tree."""
        if self.tree is None or rule >= len(self.patterns):
            return None
        if rule not in self.searches:
            self.searches[rule] = Search(self.patterns[rule], self.tree)
        return self.searches[rule]

    def find_node(self, rule, start):
        search = self.search_for(rule)
        if search is None:
            return [0]
        for node in range(start, self.tree.size):
            if search.matches(search.begin(node)):
                return [1, node]
        return [0]

    def count_ways(self, rule, node):
        search = self.search_for(rule)
        if search is None or node >= self.tree.size:
            return 0
        return search.tally(search.begin(node))

    def tell_filling(self, rule, node, way, number):
        if way >= self.count_ways(rule, node):
            return [0]
        search = self.search_for(rule)
        hole = search.pattern.firsts.get(number)
        if hole is None:
            return [0]
        filling = search.filling(node, way, hole)
        return [1, filling[0], filling[1]]


def answer_call(shapes, reader):
    """Read one call, and give back the numbers that answer it."""
    call = reader.take_number()
    if call == TREE:
        return shapes.change_tree(reader.take_row())
    if call == RULE:
        pattern = reader.take_row()
        return shapes.add_rule(pattern, reader.take_row())
    if call == FIND:
        rule = reader.take_number()
        return shapes.find_node(rule, reader.take_number())
    if call == WAYS:
        rule = reader.take_number()
        return [shapes.count_ways(rule, reader.take_number())]
    if call == FILL:
        rule = reader.take_number()
        node = reader.take_number()
        way = reader.take_number()
        return shapes.tell_filling(rule, node, way, reader.take_number())
    raise UnknownCall(f"no call has the number {call}")


def answers(calls):
    """Answer the calls of a list, one behind another, on a new tree and new rules."""
    reader = Reader(calls)
    shapes = Shapes()
    told = []
    while reader.has_more():
        answer = answer_call(shapes, reader)
        told.append(len(answer))
        told.extend(answer)
    return told

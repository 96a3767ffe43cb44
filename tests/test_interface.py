"""The interface: one list of calls in, one list of answers out, nothing kept."""

import unittest

from holeshapes.shapes import UnknownCall, answers
from tests.helper import TOP, apply, ask, fill, find, node, nodes, one, row, rule, run, shown, step, tree, ways

# All nine kinds of calls; each line of TOLD answers the same line of CALLS.
CALLS = [
    3, 0, 0,
    9,
    1, 9, 0, 1, 2, 0, 2, 0, 0, 3, 0,
    2, 9, 0, 1, 2, 2, 5, 0, 1, 6, 0, 3, 1, 6, 0,
    2, 3, 2, 5, 0, 3, 0, 0, 0,
    3, 0, 0,
    4, 0, 0,
    5, 0, 0, 0, 5,
    5, 0, 0, 0, 6,
    5, 0, 0, 1, 6,
    1, 0,
    4, 0, 0,
    6, 0, 0, 1,
    7,
    7,
    9,
    2, 3, 1, 8, 0, 6, 0, 4, 1, 1, 8, 0,
    8, 3,
    8, 201,
    6, 1, 1, 0,
    9,
    1, 3, 0, 7, 0,
    8, 0,
    6, 1, 0, 0,
    9,
]
TOLD = [
    1, 0,
    1, 0,
    1, 0,
    1, 0,
    1, -1,
    2, 1, 0,
    1, 1,
    3, 1, 1, 1,
    3, 1, 2, 1,
    1, 0,
    1, -1,
    1, 1,
    1, 0,
    1, 0,
    1, -1,
    3, 1, 3, 0,
    1, 1,
    2, 3, 1,
    1, -1,
    1, 1,
    11, 5, 4, 1, 4, 1, 4, 1, 4, 1, 3, 0,
    1, 0,
    2, 0, 1,
    1, 1,
    5, 2, 4, 1, 7, 0,
]


class Interface(unittest.TestCase):
    def test_several_calls_in_one_list(self):
        self.assertEqual(answers(list(CALLS)), TOLD)

    def test_the_list_is_the_same_afterwards(self):
        calls = list(CALLS)
        answers(calls)
        self.assertEqual(calls, CALLS)

    def test_the_list_is_only_read(self):
        class Watched(list):
            def refuse(self, *args, **kwargs):
                raise AssertionError("the list handed in was changed")
            append = extend = insert = pop = remove = clear = sort = reverse = refuse
            __setitem__ = __delitem__ = __iadd__ = __imul__ = refuse
        self.assertEqual(answers(Watched(CALLS)), TOLD)

    def test_twice_gives_the_same(self):
        calls = list(CALLS)
        first = answers(calls)
        self.assertEqual(answers(calls), first)
        first.append(99)
        self.assertEqual(answers(calls), TOLD)

    def test_nothing_is_kept(self):
        answers(list(CALLS))
        self.assertEqual(ask(nodes(), ways(0, 0), find(0, 0), step(), rule(node(1))), [[0], [0], [0], [-1], [0]])

    def test_numbers_of_python_s_own_kind(self):
        told = answers(list(CALLS))
        self.assertIs(type(told), list)
        self.assertEqual({type(number) for number in told}, {int})

    def test_400_calls(self):
        calls = [tree(node(1)), rule(node(1))] + [ways(0, 0), find(0, 0)] * 199
        self.assertEqual(ask(*calls), [[0], [0]] + [[1], [1, 0]] * 199)
        calls = [tree(node(1)), rule(one(1), node(2, one(1)))] + [step(), nodes()] * 199
        told = ask(*calls)
        self.assertEqual(told[2::2], [[0]] * 199)
        self.assertEqual(told[-1], [200] + [2, 1] * 199 + [1, 0])


    def test_numbers_that_stand_for_no_call(self):
        for call in (0, 10, 11, TOP):
            with self.assertRaises(UnknownCall):
                answers([call])


class NothingThereYet(unittest.TestCase):
    def test_no_tree_and_no_rule(self):
        self.assertEqual(ask(find(0, 0)), [[0]])
        self.assertEqual(ask(ways(0, 0)), [[0]])
        self.assertEqual(ask(fill(0, 0, 0, 0)), [[0]])
        self.assertEqual(ask(apply(0, 0, 0)), [[0]])
        self.assertEqual(ask(step()), [[-1]])
        self.assertEqual(ask(run(1)), [[0, 0]])
        self.assertEqual(ask(nodes()), [[0]])

    def test_no_tree(self):
        told = ask(rule(one(1)), find(0, 0), ways(0, 0), fill(0, 0, 0, 1))
        self.assertEqual(told, [[0], [0], [0], [0]])

    def test_no_rule(self):
        told = ask(tree(node(1)), find(0, 0), ways(0, 0), fill(0, 0, 0, 1))
        self.assertEqual(told, [[0], [0], [0], [0]])

    def test_only_refused_ones(self):
        told = ask(tree([]), rule(row(1)), find(0, 0), ways(0, 0), fill(0, 0, 0, 1))
        self.assertEqual(told, [[-1], [-1], [0], [0], [0]])


class CallsInAnyOrder(unittest.TestCase):
    def test_a_rule_before_its_tree(self):
        told = ask(rule(node(1, row(1))), tree(node(1, node(1))), ways(0, 1), find(0, 0), fill(0, 0, 0, 1))
        self.assertEqual(told, [[0], [0], [1], [1, 0], [1, 1, 1]])

    def test_asked_again_after_other_calls(self):
        told = ask(rule(node(1, row(1), row(2))), tree(node(1, node(1))), ways(0, 0), rule(one(1)), ways(1, 0),
                   ways(0, 0), tree(node(1, node(1), node(1))), ways(0, 0), ways(1, 2), find(0, 1))
        self.assertEqual(told, [[0], [0], [2], [1], [1], [2], [0], [3], [1], [1, 1]])

    def test_all_kinds_between_one_another(self):
        told = ask(nodes(), step(), rule(node(1, row(1)), node(2, row(1), row(1))), run(2), tree(node(1, node(1))),
                   ways(0, 1), step(), find(0, 0), rule(node(2, one(1), one(1)), one(1)), fill(1, 0, 0, 1), run(200),
                   nodes(), tree([]), apply(1, 0, 0), apply(0, 0, 0), tree(node(1)), apply(0, 0, 0), nodes(), run(201))
        self.assertEqual(told, [[0], [-1], [0], [0, 0], [0],
                                [1], [0], [1, 1], [1], [1, 1, 1], [2, 0],
                                shown(node(2)), [-1], [0], [0], [0], [1], [1, 2, 0], [-1]])

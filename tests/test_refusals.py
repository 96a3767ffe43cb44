"""Promises 6 and 7: refusals are as said, and sums of children don't wrap."""

import unittest

from holeshapes.trees import is_one_tree
from tests.helper import TOP, ask, chain, fill, find, flat, node, nodes, one, row, rule, shown, tree, ways

FINE = node(1, node(2), node(3))
PATTERN = node(1, row(1), one(2))


def state_calls():
    """Calls whose answers show which tree and which rules there are."""
    calls = [nodes(), find(0, 0), find(1, 0)]
    for i in range(4):
        calls.extend([ways(0, i), ways(1, i), fill(0, i, 0, 1), fill(0, i, 0, 2)])
    return calls


class Refused(unittest.TestCase):
    def check(self, call, refusal):
        """The call is refused with nothing there yet, and with a tree and a rule, which stay."""
        self.assertEqual(ask(call), [[refusal]])
        before = [tree(FINE), rule(PATTERN)]
        told = ask(*before, *state_calls(), call, *state_calls())
        number = len(state_calls())
        self.assertEqual(told[2 + number], [refusal])
        self.assertEqual(told[2:2 + number], told[3 + number:])
        self.assertEqual(told[2:4], [shown(FINE), [1, 0]])
        self.assertEqual(ask(*before, call, rule(PATTERN), tree(node(2)), ways(0, 0))[2:], [[refusal], [1], [0], [0]])


class Trees(Refused):
    def test_taken(self):
        for shape in (node(0), node(TOP, node(TOP)), FINE, chain([1, 2, 3])):
            self.assertEqual(ask(tree(shape)), [[0]])

    def test_a_new_one_takes_the_old_one_s_place(self):
        told = ask(rule(node(1)), tree(node(1)), ways(0, 0), tree(node(2, node(1))), ways(0, 0), ways(0, 1))
        self.assertEqual(told, [[0], [0], [1], [0], [0], [1]])

    def test_no_numbers(self):
        self.check(tree([]), -1)

    def test_not_three_each(self):
        for numbers in ([0], [0, 1], [0, 1, 0, 0], [0, 1, 1, 0, 2], [0, 1, 0, 0, 1]):
            self.check(tree(numbers), -1)

    def test_768_numbers(self):
        self.assertEqual(ask(tree([0, 1, 255] + [0, 2, 0] * 255)), [[0]])
        self.check(tree([0, 1, 256] + [0, 2, 0] * 255), -1)
        self.check(tree([0, 1, 254] + [0, 2, 0] * 255), -1)
        self.check(tree([0] * 767), -1)

    def test_more_than_768(self):
        self.check(tree([0, 1, 256] + [0, 2, 0] * 256), -3)
        for size in (769, 770, 771, 29700):
            self.check(tree([0] * size), -3)
            self.check(tree([1] * size), -3)
        self.assertEqual(ask(tree([0] * 29900)), [[-3]])

    def test_a_kind_that_is_not_0(self):
        for kind in (1, 2, 3, TOP):
            self.check(tree([kind, 1, 0]), -1)
            self.check(tree([0, 1, 1, kind, 1, 0]), -1)
            self.check(tree([0, 1, 2, kind, 1, 1, 0, 1, 0, 0, 1, 0]), -1)

    def test_too_few_nodes(self):
        self.check(tree([0, 1, 1]), -1)
        self.check(tree([0, 1, 2, 0, 1, 0]), -1)
        self.check(tree([0, 1, 2, 0, 1, 0, 0, 1, 1]), -1)

    def test_nodes_left_over(self):
        self.check(tree([0, 1, 0, 0, 1, 0]), -1)
        self.check(tree([0, 1, 1, 0, 1, 0, 0, 1, 0]), -1)
        self.check(tree([0, 1, 0, 0, 1, 1, 0, 1, 0]), -1)
        self.check(tree([0, 1, 0, 0, 1, 1]), -1)
        self.check(tree([0, 1, 0, 0, 1, 2]), -1)


class Rules(Refused):
    def check_both(self, shape):
        """The shape is refused as a pattern and as a replacement."""
        self.check(rule(shape, node(0)), -1)
        self.check(rule(node(0, one(1), one(2), one(3), row(4), row(5), row(6)), shape), -1)
        self.check(rule(shape, shape), -1)

    def test_numbered_as_they_came(self):
        self.assertEqual(ask(rule(node(1)), rule(node(1)), tree(FINE), rule(one(1))), [[0], [1], [0], [2]])

    def test_no_numbers(self):
        self.check_both([])

    def test_not_three_each(self):
        for numbers in ([0], [0, 1], [1, 1], [0, 1, 0, 0], [0, 1, 1, 0, 2]):
            self.check_both(numbers)

    def test_32_nodes(self):
        for shape in (node(0, *[node(1)] * 31), chain([1] * 32), node(0, *[one(1)] * 31)):
            self.assertEqual(ask(rule(shape, shape)), [[0]])

    def test_33_nodes(self):
        self.check_both(node(0, *[node(1)] * 32))
        self.check_both(chain([1] * 33))
        self.check_both(flat(node(0, *[one(1)] * 32)))
        self.check_both([0] * 97)
        self.check_both([0] * 14900)

    def test_a_first_node_of_kind_2(self):
        self.check_both(row(4))
        self.check_both([2, 4, 1, 0, 0, 0])

    def test_a_first_node_of_kind_1(self):
        self.assertEqual(ask(rule(one(1), one(1))), [[0]])

    def test_a_hole_with_children(self):
        self.check_both([1, 1, 1, 0, 0, 0])
        self.check_both([0, 0, 1, 1, 1, 1, 0, 0, 0])
        self.check_both([0, 0, 1, 2, 4, 1, 0, 0, 0])
        self.check_both([0, 0, 2, 2, 4, 2, 0, 0, 0, 0, 0, 0, 0, 0, 0])

    def test_a_kind_above_2(self):
        for kind in (3, 4, TOP):
            self.check_both([kind, 1, 0])
            self.check_both([0, 0, 1, kind, 1, 0])

    def test_too_few_nodes(self):
        self.check_both([0, 1, 1])
        self.check_both([0, 1, 2, 1, 1, 0])
        self.check_both([0, 1, 2, 2, 4, 0])

    def test_nodes_left_over(self):
        self.check_both([0, 1, 0, 0, 1, 0])
        self.check_both([0, 1, 0, 0, 1, 1])
        self.check_both([1, 1, 0, 1, 1, 0])
        self.check_both([1, 1, 0, 0, 1, 1])
        self.check_both([0, 1, 1, 1, 1, 0, 2, 4, 0])

    def test_three_and_four_of_kind_2_in_the_pattern(self):
        self.assertEqual(ask(rule(node(0, row(1), row(2), row(3)))), [[0]])
        self.assertEqual(ask(rule(node(0, row(1), row(1), node(0, row(1))))), [[0]])
        self.check(rule(node(0, row(1), row(2), row(3), row(4))), -1)
        self.check(rule(node(0, row(1), row(2), row(1), row(2))), -1)
        self.check(rule(node(0, row(1), node(0, row(1), row(1)), row(1))), -1)

    def test_many_of_kind_2_in_the_replacement(self):
        self.assertEqual(ask(rule(node(0, row(1)), node(0, *[row(1)] * 31))), [[0]])

    def test_a_number_for_both_kinds_in_the_pattern(self):
        self.check(rule(node(0, row(1), one(1))), -1)
        self.check(rule(node(0, one(1), node(2), node(3, row(1)))), -1)

    def test_a_label_may_be_like_a_hole_s_number(self):
        self.assertEqual(ask(rule(node(1, row(2), one(1)), node(2, one(1), row(2)))), [[0]])

    def test_a_hole_that_is_not_the_pattern_s(self):
        self.check(rule(node(0, one(1)), one(2)), -2)
        self.check(rule(node(0, one(1)), node(0, one(1), row(2))), -2)
        self.check(rule(node(1), node(0, node(0, one(1)))), -2)

    def test_a_hole_of_the_other_kind(self):
        self.check(rule(node(0, row(1)), one(1)), -2)
        self.check(rule(node(0, one(1)), node(0, row(1))), -2)
        self.check(rule(node(0, one(1)), node(0, one(1), row(1))), -2)

    def test_holes_any_number_of_times(self):
        told = ask(rule(node(0, one(1), row(2)), node(0, one(1), one(1), row(2), row(2))),
                   rule(node(0, one(1), row(2)), node(0)))
        self.assertEqual(told, [[0], [1]])

    def test_the_17th(self):
        told = ask(*[rule(node(k)) for k in range(18)])
        self.assertEqual(told, [[k] for k in range(16)] + [[-3], [-3]])

    def test_after_the_17th_the_rules_are_as_they_were(self):
        sixteen = [rule(node(k)) for k in range(16)]
        shows = [find(k, 0) for k in range(17)]
        told = ask(tree(node(99, node(15), node(16))), *sixteen, *shows, rule(node(16)), *shows)
        self.assertEqual(told[17:34], [[0]] * 15 + [[1, 1], [0]])
        self.assertEqual(told[34], [-3])
        self.assertEqual(told[35:], told[17:34])


class TheFirstThatHolds(unittest.TestCase):
    def after_16(self, call):
        return ask(*[rule(node(k)) for k in range(16)], call)[-1]

    def test_minus_1_before_minus_2(self):
        self.assertEqual(ask(rule(node(0, row(1), one(1)), one(9))), [[-1]])
        self.assertEqual(ask(rule(node(0), [0, 0, 2, 1, 9, 0])), [[-1]])
        self.assertEqual(ask(rule(node(0), node(0, *[one(9)] * 32))), [[-1]])

    def test_minus_1_before_minus_3(self):
        self.assertEqual(self.after_16(rule(row(1))), [-1])
        self.assertEqual(self.after_16(rule(node(1), [])), [-1])

    def test_minus_2_before_minus_3(self):
        self.assertEqual(self.after_16(rule(node(1), one(1))), [-2])

    def test_minus_3_of_a_tree_before_minus_1(self):
        self.assertEqual(ask(tree([1] * 770)), [[-3]])


class SumsOfChildren(Refused):
    # Taken to 32 bits, the children of each of these come out as just one tree.
    wrapping = [
        [0, 1, TOP, 0, 1, 2],
        [0, 1, 2, 0, 1, TOP],
        [0, 1, TOP, 0, 1, TOP, 0, 1, 4],
        [0, 1, TOP] + [0, 1, 1] * 20 + [0, 1, 2],
        [0, 1, 3, 0, 1, TOP, 0, 1, 0],
        [0, 1, TOP] * 8 + [0, 1, 16],
        [0, 1, 2147483648, 0, 1, 2147483649],
        [0, 1, 65536] * 3 + [0, 1, TOP - 65536 * 3 + 4],
    ]

    def test_they_would_wrap(self):
        for numbers in self.wrapping:
            total = sum(numbers[2::3])
            self.assertGreaterEqual(total, 2 ** 32)
            self.assertEqual(total % 2 ** 32, len(numbers) // 3 - 1)

    def test_in_a_tree(self):
        for numbers in self.wrapping:
            self.check(tree(numbers), -1)

    def test_in_a_pattern_and_in_a_replacement(self):
        for numbers in self.wrapping:
            self.check(rule(numbers), -1)
            self.check(rule(node(0), numbers), -1)

    def test_one_node_that_says_the_most(self):
        for numbers in ([0, 1, TOP], [0, 1, TOP] + [0, 1, 0] * 20, [0, 1, 1, 0, 1, TOP]):
            self.check(tree(numbers), -1)
            self.check(rule(numbers), -1)
            self.check(rule(node(0), numbers), -1)

    def test_as_many_as_there_may_be(self):
        self.check(tree([0, 1, TOP] * 256), -1)
        self.check(rule([0, 1, TOP] * 32), -1)
        self.check(rule(node(0), [0, 1, TOP] * 32), -1)
        self.check(tree([0, 1, TOP] * 9900), -3)
        self.check(rule([0, 1, TOP] * 9900), -1)

    def test_a_hole_that_says_the_most(self):
        self.check(rule([1, 1, TOP]), -1)
        self.check(rule([0, 1, 2, 2, 1, TOP]), -1)

    def test_past_64_bits(self):
        # No list of the interface's numbers sums up that far, so the check itself is asked.
        self.assertFalse(is_one_tree([0, 1, 2 ** 64 - 1, 0, 1, 2]))
        self.assertFalse(is_one_tree([0, 1, 2 ** 63] * 2 + [0, 1, 2]))
        self.assertFalse(is_one_tree([0, 1, 2 ** 64]))

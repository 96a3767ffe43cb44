"""Promise 3: what's rewritten is a tree again; and what apply answers."""

import unittest

from tests.helper import TOP, apply, ask, chain, flat, node, nodes, one, row, rule, shown, tree

FAMILY = node(1, node(2, node(3), node(4)), node(5), node(6, node(7)))
ABC = [node(10), node(11, node(12)), node(13)]


class Applied(unittest.TestCase):
    def check(self, shape, pattern, replacement, i, w, expected):
        """Applied once, the rule makes the expected tree of the shape."""
        told = ask(tree(shape), rule(pattern, replacement), apply(0, i, w), nodes())
        self.assertEqual(told, [[0], [0], [1], shown(expected)])

    def check_not(self, shape, pattern, replacement, i, w, answer):
        """Not applied, the rule leaves the tree as it was."""
        told = ask(tree(shape), rule(pattern, replacement), apply(0, i, w), nodes())
        self.assertEqual(told, [[0], [0], [answer], shown(shape)])


class Places(Applied):
    def test_at_the_first_node(self):
        self.check(FAMILY, node(1, row(1)), node(9, row(1)), 0, 0,
                   node(9, node(2, node(3), node(4)), node(5), node(6, node(7))))
        self.check(FAMILY, one(1), node(9, node(8)), 0, 0, node(9, node(8)))

    def test_at_nodes_in_the_middle(self):
        self.check(FAMILY, node(2, row(1)), node(9, row(1), node(8)), 1, 0,
                   node(1, node(9, node(3), node(4), node(8)), node(5), node(6, node(7))))
        self.check(FAMILY, node(4), node(9, node(8)), 3, 0,
                   node(1, node(2, node(3), node(9, node(8))), node(5), node(6, node(7))))
        self.check(FAMILY, node(5), node(9, node(8)), 4, 0,
                   node(1, node(2, node(3), node(4)), node(9, node(8)), node(6, node(7))))

    def test_at_the_last_node(self):
        self.check(FAMILY, node(7), node(9, node(8), node(8)), 6, 0,
                   node(1, node(2, node(3), node(4)), node(5), node(6, node(9, node(8), node(8)))))

    def test_a_hole_at_each_node(self):
        expected = [
            node(9),
            node(1, node(9), node(5), node(6, node(7))),
            node(1, node(2, node(9), node(4)), node(5), node(6, node(7))),
            node(1, node(2, node(3), node(9)), node(5), node(6, node(7))),
            node(1, node(2, node(3), node(4)), node(9), node(6, node(7))),
            node(1, node(2, node(3), node(4)), node(5), node(9)),
            node(1, node(2, node(3), node(4)), node(5), node(6, node(9))),
        ]
        for i, shape in enumerate(expected):
            self.check(FAMILY, one(1), node(9), i, 0, shape)

    def test_again_where_it_was_applied(self):
        told = ask(tree(node(1, node(2), node(2))), rule(node(2), node(3, node(2))), apply(0, 1, 0), apply(0, 2, 0),
                   apply(0, 1, 0), apply(0, 4, 0), nodes())
        expected = node(1, node(3, node(3, node(2))), node(3, node(2)))
        self.assertEqual(told, [[0], [0], [1], [1], [0], [1], shown(expected)])

    def test_the_rule_that_is_named(self):
        told = ask(tree(node(1, node(1))), rule(node(1), node(7)), rule(one(1), node(8, one(1))), rule(node(2)),
                   apply(1, 1, 0), nodes(), apply(2, 0, 0), apply(0, 2, 0), nodes())
        self.assertEqual(told[4:], [[1], shown(node(1, node(8, node(1)))), [0], [1],
                                    shown(node(1, node(8, node(7))))])


class Ways(Applied):
    def test_each_way(self):
        shape = node(1, *ABC)
        for w in range(3):
            self.check(shape, node(1, row(1), one(2), row(3)), one(2), 0, w, ABC[w])
            self.check(shape, node(1, row(1), one(2), row(3)), node(5, row(3), one(2)), 0, w,
                       node(5, *ABC[w + 1:], ABC[w]))
        self.check_not(shape, node(1, row(1), one(2), row(3)), one(2), 0, 3, 0)

    def test_two_rows(self):
        shape = node(0, node(1, *ABC))
        for w in range(4):
            self.check(shape, node(1, row(1), row(2)), node(1, row(2), node(9), row(1)), 1, w,
                       node(0, node(1, *ABC[w:], node(9), *ABC[:w])))
        self.check_not(shape, node(1, row(1), row(2)), node(1), 1, 4, 0)

    def test_three_rows_in_order(self):
        told = []
        for w in range(10):
            told.append(ask(tree(node(1, *ABC)), rule(node(1, row(1), row(2), row(3)),
                            node(4, node(5, row(1)), node(6, row(2)), node(7, row(3)))), apply(0, 0, w), nodes())[-1])
        expected = [shown(node(4, node(5, *ABC[:first]), node(6, *ABC[first:second]), node(7, *ABC[second:])))
                    for first in range(4) for second in range(first, 4)]
        self.assertEqual(told, expected)

    def test_a_later_way_among_alike_trees(self):
        shape = node(1, node(2), node(3), node(2), node(3))
        pattern = node(1, row(1), one(2), row(3), one(2), row(4))
        self.check(shape, pattern, node(5, row(1), row(3), row(4)), 0, 0, node(5, node(3), node(3)))
        self.check(shape, pattern, node(5, row(1), row(3), row(4)), 0, 1, node(5, node(2), node(2)))
        self.check_not(shape, pattern, node(5), 0, 2, 0)

    def test_the_last_way_of_many(self):
        shape = node(1, *[node(k) for k in range(100)])
        last = 101 * 102 // 2 - 1
        self.check(shape, node(1, row(1), row(2), row(3)), node(5, row(1)), 0, last, node(5, *shape[2]))
        self.check_not(shape, node(1, row(1), row(2), row(3)), node(5), 0, last + 1, 0)


class Holes(Applied):
    def test_a_replacement_that_is_one_hole(self):
        self.check(FAMILY, node(1, one(1), one(2), one(3)), one(1), 0, 0, node(2, node(3), node(4)))
        self.check(FAMILY, node(1, one(1), one(2), one(3)), one(2), 0, 0, node(5))
        self.check(FAMILY, node(1, one(1), one(2), one(3)), one(3), 0, 0, node(6, node(7)))
        self.check(FAMILY, node(6, one(TOP)), one(TOP), 5, 0, node(1, node(2, node(3), node(4)), node(5), node(7)))
        self.check(FAMILY, one(1), one(1), 0, 0, FAMILY)
        self.check(FAMILY, one(1), one(1), 6, 0, FAMILY)

    def test_a_replacement_without_holes(self):
        self.check(FAMILY, node(2, one(1), row(2)), node(9, node(8, node(8)), node(8)), 1, 0,
                   node(1, node(9, node(8, node(8)), node(8)), node(5), node(6, node(7))))
        self.check(node(1), node(1), node(2), 0, 0, node(2))

    def test_not_at_all_once_and_several_times(self):
        shape = node(0, node(1, *ABC))
        pattern = node(1, one(1), row(2))
        self.check(shape, pattern, node(9, one(1)), 1, 0, node(0, node(9, ABC[0])))
        self.check(shape, pattern, node(9, row(2)), 1, 0, node(0, node(9, ABC[1], ABC[2])))
        self.check(shape, pattern, node(9, one(1), row(2), one(1), row(2), one(1)), 1, 0,
                   node(0, node(9, ABC[0], *ABC[1:], ABC[0], *ABC[1:], ABC[0])))
        self.check(shape, pattern, node(9, node(8, one(1), row(2)), node(7, one(1)), row(2)), 1, 0,
                   node(0, node(9, node(8, *ABC), node(7, ABC[0]), *ABC[1:])))

    def test_a_number_met_again_in_the_pattern(self):
        shape = node(1, ABC[1], ABC[1], node(2, *ABC), node(3, *ABC))
        pattern = node(1, one(1), one(1), node(2, row(2)), node(3, row(2)))
        self.check(shape, pattern, node(4, row(2), one(1)), 0, 0, node(4, *ABC, ABC[1]))

    def test_more_rows_than_a_pattern_may_have(self):
        self.check(node(1, *ABC), node(1, row(1)), node(2, *[row(1)] * 8), 0, 0, node(2, *ABC * 8))

    def test_31_holes(self):
        shape = node(1, *[node(k, node(k)) for k in range(31)])
        self.check(shape, node(1, *[one(k) for k in range(31)]), node(2, *[one(30 - k) for k in range(31)]), 0, 0,
                   node(2, *reversed(shape[2])))

    def test_labels_like_numbers_of_holes(self):
        self.check(node(1, node(2), node(3)), node(1, one(2), row(1)), node(2, row(1), node(1, one(2))), 0, 0,
                   node(2, node(3), node(1, node(2))))

    def test_holes_one_below_another(self):
        self.check(FAMILY, node(1, node(2, row(1)), row(2)), node(9, node(8, node(7, row(2)), row(1))), 0, 0,
                   node(9, node(8, node(7, node(5), node(6, node(7))), node(3), node(4))))


class Rows(Applied):
    """Holes of kind 2 filled with none, one and several trees, wherever they stand in their row."""

    def check_rows(self, pattern, replacement, expected):
        """expected tells the tree that comes out of the trees that the hole stands for."""
        for taken in ([], ABC[:1], ABC[1:2], ABC[:2], ABC):
            filled = plain_row(pattern, taken)
            for shape, i, around in around_it(filled):
                self.check(shape, pattern, replacement, i, 0, around(expected(taken)))

    def test_alone(self):
        self.check_rows(node(1, row(1)), node(9, row(1)), lambda taken: node(9, *taken))

    def test_at_the_beginning(self):
        self.check_rows(node(1, row(1), node(2)), node(9, row(1), node(8)), lambda taken: node(9, *taken, node(8)))

    def test_in_the_middle(self):
        self.check_rows(node(1, node(2), row(1), node(3)), node(9, node(8), row(1), node(7)),
                        lambda taken: node(9, node(8), *taken, node(7)))

    def test_at_the_end(self):
        self.check_rows(node(1, node(2), row(1)), node(9, node(8), row(1)), lambda taken: node(9, node(8), *taken))

    def test_one_behind_another(self):
        self.check_rows(node(1, row(1)), node(9, row(1), row(1)), lambda taken: node(9, *taken, *taken))

    def test_deeper(self):
        self.check_rows(node(1, node(2, row(1))), node(9, node(8, row(1), node(7)), node(6, node(5, row(1)))),
                        lambda taken: node(9, node(8, *taken, node(7)), node(6, node(5, *taken))))

    def test_two_with_different_fillings(self):
        for first in ([], ABC[:1], ABC):
            for second in ([], ABC[1:2], ABC[1:]):
                self.check(node(1, *first, node(2), *second), node(1, row(1), node(2), row(3)),
                           node(4, row(3), node(5, row(1)), row(1)), 0, 0,
                           node(4, *second, node(5, *first), *first))


def plain_row(pattern, taken):
    """The pattern, whose one hole is of kind 2, with trees in the place of the hole."""
    parts = []
    for part in pattern[2]:
        parts.extend(taken if part[0] == 2 else [plain_row(part, taken)])
    return node(pattern[1], *parts)


def around_it(shape):
    """The shape alone and among others: the whole, the node at which the shape is, what makes a whole of another."""
    yield shape, 0, lambda other: other
    yield node(20, shape), 1, lambda other: node(20, other)
    yield node(20, node(21), shape), 2, lambda other: node(20, node(21), other)
    yield node(20, shape, node(21)), 1, lambda other: node(20, other, node(21))
    yield (node(20, node(21, node(22)), node(23, shape, node(24)), node(25)), 4,
           lambda other: node(20, node(21, node(22)), node(23, other, node(24)), node(25)))


class Refused(Applied):
    def test_no_such_rule(self):
        for k in (1, 2, 16, TOP):
            told = ask(tree(FAMILY), rule(one(1), node(9)), apply(k, 0, 0), nodes())
            self.assertEqual(told, [[0], [0], [0], shown(FAMILY)])
        self.assertEqual(ask(tree(FAMILY), apply(0, 0, 0), nodes()), [[0], [0], shown(FAMILY)])

    def test_no_such_node(self):
        for i in (7, 8, 256, TOP):
            self.check_not(FAMILY, one(1), node(9), i, 0, 0)

    def test_no_such_way(self):
        for w in (1, 2, 256, TOP):
            self.check_not(FAMILY, one(1), node(9), 0, w, 0)
        for w in (2, 3, TOP):
            self.check_not(FAMILY, node(2, row(1), one(2), row(3)), node(9), 1, w, 0)

    def test_it_does_not_match_there(self):
        for i in (0, 1, 2, 4, 5, 6):
            self.check_not(FAMILY, node(4), node(9), i, 0, 0)
        self.check_not(FAMILY, node(2), node(9), 1, 0, 0)
        self.check_not(FAMILY, node(2, one(1), one(1)), node(9), 1, 0, 0)

    def test_no_tree(self):
        self.assertEqual(ask(apply(0, 0, 0), nodes()), [[0], [0]])
        self.assertEqual(ask(rule(one(1), node(9)), apply(0, 0, 0), nodes()), [[0], [0], [0]])


class TooLarge(Applied):
    def wide(self, number):
        return node(9, *[node(k) for k in range(100, 100 + number)])

    def test_256_nodes_afterwards(self):
        shape = self.wide(254)
        last = node(9, *shape[2][:-1], node(1, node(2)))
        self.check(shape, node(353), node(1, node(2)), 254, 0, last)
        self.check(shape, node(9, row(1)), node(9, row(1), node(2)), 0, 0, node(9, *shape[2], node(2)))
        self.check(self.wide(255), node(354), node(355), 255, 0, node(9, *self.wide(254)[2], node(355)))

    def test_257_nodes_afterwards(self):
        self.check_not(self.wide(254), node(353), node(1, node(2), node(3)), 254, 0, -3)
        self.check_not(self.wide(254), node(9, row(1)), node(9, row(1), node(2), node(3)), 0, 0, -3)
        self.check_not(self.wide(255), node(354), node(1, node(2)), 255, 0, -3)
        self.check_not(self.wide(255), node(100), node(1, node(2)), 1, 0, -3)
        self.check_not(self.wide(255), one(1), node(1, one(1)), 0, 0, -3)

    def test_holes_of_kind_1_used_twice(self):
        for size, answer in ((126, 1), (127, 1), (128, -3), (256, -3)):
            shape = chain(list(range(size)))
            told = ask(tree(shape), rule(one(1), node(7, one(1), one(1))), apply(0, 0, 0), nodes())
            expected = node(7, shape, shape) if answer == 1 else shape
            self.assertEqual(told, [[0], [0], [answer], shown(expected)])

    def test_holes_of_kind_2_used_twice(self):
        for number, answer in ((126, 1), (127, 1), (128, -3), (255, -3)):
            shape = self.wide(number)
            told = ask(tree(shape), rule(node(9, row(1)), node(7, row(1), node(6), row(1))), apply(0, 0, 0), nodes())
            expected = node(7, *shape[2], node(6), *shape[2]) if answer == 1 else shape
            self.assertEqual(told, [[0], [0], [answer], shown(expected)])

    def test_what_is_taken_away_counts_too(self):
        shape = node(0, node(1, *[node(2)] * 100), node(3, *[node(4)] * 153))
        self.assertEqual(len(flat(shape)), 256 * 3)
        self.check(shape, node(1, row(1)), chain(list(range(32))), 1, 0, node(0, chain(list(range(32))), shape[2][1]))
        self.check(shape, node(1, one(1), row(2)), node(1, row(2), one(1)), 1, 0, shape)
        self.check(shape, node(0, node(1, row(1)), one(2)), node(0, row(1), node(8, one(2))), 0, 0,
                   node(0, *[node(2)] * 100, node(8, shape[2][1])))
        self.check_not(shape, node(0, node(1, row(1)), one(2)), node(0, row(1), node(8, one(2)), node(9)), 0, 0, -3)

    def test_far_too_large(self):
        self.check_not(self.wide(255), node(9, row(1)), node(9, *[row(1)] * 31), 0, 0, -3)
        self.check_not(chain(list(range(256))), one(1), node(9, *[one(1)] * 31), 0, 0, -3)

    def test_a_later_way_may_fit(self):
        shape = node(0, *[node(1)] * 200, node(2, *[node(3)] * 54))
        pattern = node(0, row(1), one(2), row(3))
        replacement = node(0, row(1), row(1), one(2))
        self.check(shape, pattern, replacement, 0, 0, node(0, node(1)))
        self.check(shape, pattern, replacement, 0, 127, node(0, *[node(1)] * 255))
        self.check_not(shape, pattern, replacement, 0, 128, -3)
        self.check_not(shape, pattern, replacement, 0, 200, -3)
        self.check_not(shape, pattern, replacement, 0, 201, 0)

    def test_it_may_be_tried_again(self):
        told = ask(tree(self.wide(255)), rule(node(100), node(1, node(2))), rule(node(101), node(9)),
                   rule(node(9, one(1), row(2)), node(9, row(2))), apply(0, 1, 0), apply(1, 2, 0), apply(0, 1, 0),
                   apply(2, 0, 0), nodes())
        self.assertEqual(told[4:], [[-3], [1], [-3], [1], shown(node(9, node(9), *self.wide(255)[2][2:]))])


class Deep(Applied):
    def test_at_the_end_of_256_nodes(self):
        labels = list(range(256))
        self.check(chain(labels), node(255), node(7), 255, 0, chain(labels[:-1] + [7]))
        self.check(chain(labels), node(254, one(1)), one(1), 254, 0, chain(labels[:-2] + [255]))
        self.check_not(chain(labels), node(255), node(7, node(8)), 255, 0, -3)

    def test_at_the_beginning_of_256_nodes(self):
        labels = list(range(256))
        self.check(chain(labels), node(0, node(1, one(1))), node(1, node(0, one(1))), 0, 0,
                   chain([1, 0] + labels[2:]))
        self.check(chain(labels), node(0, one(1)), one(1), 0, 0, chain(labels[1:]))

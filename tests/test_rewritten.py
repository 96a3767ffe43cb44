"""find, ways and fill answer of the tree that is there: the rewritten one, or the one that a refusal left."""

import unittest

from tests.helper import (TOP, apply, ask, fill, find, flat, node, nodes, one, row, rule, run, shown, step, tree,
                          ways)

SHAPE = node(1, node(2, node(3)), node(2, node(3), node(4)), node(5))
RULES = [
    rule(node(2, row(1)), node(6, row(1))),
    rule(one(1), node(7, one(1), one(1))),
    rule(node(1, row(1), one(2), row(3)), node(1, row(3))),
    rule(node(8, one(1), row(2)), node(1)),
    rule(node(6, row(1), row(2)), node(1)),
]


def questions(size):
    """Calls that tell all about a tree of so many nodes, as far as the rules show it."""
    calls = [nodes()]
    for k in range(len(RULES)):
        calls.extend([find(k, 0), find(k, 2), find(k, size)])
        for i in range(size + 1):
            calls.extend([ways(k, i), fill(k, i, 0, 1), fill(k, i, 1, 1), fill(k, i, 1, 2), fill(k, i, 2, 3)])
    return calls


class Checked(unittest.TestCase):
    def check(self, changes, shape):
        """After the changes, all is answered as if the shape had been handed in."""
        asked = questions(len(flat(shape)) // 3)
        told = ask(tree(SHAPE), *RULES, *changes, *asked)
        self.assertEqual(told[-len(asked):], ask(*RULES, tree(shape), *asked)[-len(asked):])
        self.assertEqual(told[-len(asked)], shown(shape))
        # Asked before as well, so that nothing that was found out then is told of the new tree.
        before = questions(len(flat(SHAPE)) // 3)
        for at in range(0, len(before), 100):
            told = ask(tree(SHAPE), *RULES, *before[at:at + 100], *changes, *asked)
            self.assertEqual(told[-len(asked):], ask(*RULES, tree(shape), *asked)[-len(asked):])


class Rewritten(Checked):
    def test_after_apply(self):
        self.check([apply(0, 3, 0)], node(1, node(2, node(3)), node(6, node(3), node(4)), node(5)))
        self.check([apply(1, 6, 0)], node(1, node(2, node(3)), node(2, node(3), node(4)), node(7, node(5), node(5))))
        self.check([apply(2, 0, 1)], node(1, node(5)))
        self.check([apply(2, 0, 1), apply(1, 0, 0)], node(7, node(1, node(5)), node(1, node(5))))

    def test_after_step(self):
        rewritten = node(7, SHAPE, SHAPE)
        told = ask(tree(SHAPE), *RULES, step(), nodes(), find(2, 0), find(2, 1), find(0, 4), ways(2, 8),
                   fill(2, 8, 1, 1), fill(0, 11, 0, 1), fill(0, 15, 0, 1))
        self.assertEqual(told[6:], [[1], shown(rewritten), [1, 1], [1, 1], [1, 4], [3], [1, 9, 1], [1, 12, 2], [0]])
        # Only the first rule is there, so that it's the one that steps.
        told = ask(tree(SHAPE), RULES[0], ways(0, 1), step(), ways(0, 1), find(0, 0), fill(0, 3, 0, 1), step(),
                   find(0, 0), fill(0, 3, 0, 1), step())
        self.assertEqual(told[2:], [[1], [0], [0], [1, 3], [1, 4, 2], [0], [0], [0], [-1]])

    def test_after_run(self):
        told = ask(tree(SHAPE), rule(node(1, one(1), row(2)), node(1, row(2))), ways(0, 0), find(0, 0), run(2),
                   ways(0, 0), find(0, 0), fill(0, 0, 0, 1), fill(0, 0, 0, 2), run(1), ways(0, 0), find(0, 0),
                   fill(0, 0, 0, 1))
        self.assertEqual(told[2:], [[1], [1, 0], [2, 1], [1], [1, 0], [1, 1, 1], [1, 2, 0], [1, 1], [0], [0], [0]])

    def test_alike_parts_after_rewriting(self):
        alike = rule(node(1, row(1), one(2), one(2), row(3)))
        told = ask(tree(SHAPE), alike, rule(node(4), node(3)), rule(node(2, one(1)), node(2, one(1), one(1))),
                   ways(0, 0), apply(2, 1, 0), ways(0, 0), apply(1, 6, 0), ways(0, 0), fill(0, 0, 0, 2), nodes())
        expected = node(1, *[node(2, node(3), node(3))] * 2, node(5))
        self.assertEqual(told[4:], [[0], [1], [0], [1], [1], [1, 1, 1], shown(expected)])


class Unchanged(Checked):
    def test_after_a_refused_apply(self):
        self.check([apply(0, 0, 0), apply(99, 0, 0), apply(0, 99, 0), apply(0, 1, 1), apply(0, 1, TOP)], SHAPE)
        self.check([apply(0, 1, 0), apply(0, 1, 0)], node(1, node(6, node(3)), *SHAPE[2][1:]))

    def test_after_an_apply_that_would_be_too_large(self):
        wide = node(1, *[node(2, node(10 + k % 3)) for k in range(100)])
        asked = [nodes(), find(2, 0), find(0, 150), ways(2, 0), fill(2, 0, 70, 2), fill(0, 7, 0, 1)]
        told = ask(*RULES, tree(wide), *asked, apply(1, 0, 0), *asked)
        self.assertEqual(told[6:12], [shown(wide), [1, 0], [1, 151], [100], [1, 141, 1], [1, 8, 1]])
        self.assertEqual(told[12], [-3])
        self.assertEqual(told[13:], told[6:12])

    def test_after_a_step_and_a_run_that_would_be_too_large(self):
        wide = node(1, *[node(2, node(10 + k % 3)) for k in range(100)])
        asked = [nodes(), find(0, 0), find(1, 3), ways(1, 4), fill(1, 3, 0, 1)]
        told = ask(RULES[1], RULES[0], tree(wide), *asked, step(), *asked, run(5), *asked, run(201), *asked)
        self.assertEqual(told[3:8], [shown(wide), [1, 0], [1, 3], [0], [1, 4, 1]])
        self.assertEqual([told[8], told[14], told[20]], [[-3], [0, 2], [-1]])
        self.assertEqual([told[9:14], told[15:20], told[21:]], [told[3:8]] * 3)

    def test_after_a_step_that_matches_nothing(self):
        told = ask(tree(SHAPE), rule(node(9)), rule(node(8)), step(), nodes(), run(3), nodes(), find(0, 0))
        self.assertEqual(told[3:], [[-1], shown(SHAPE), [0, 0], shown(SHAPE), [0]])

    def test_after_a_refused_tree(self):
        for refused in ([], [0, 1], [0, 1, 1], [1, 1, 0], [0] * 771, [0, 1, TOP, 0, 1, 2]):
            self.check([tree(refused)], SHAPE)
            self.check([apply(2, 0, 1), tree(refused)], node(1, node(5)))


class HandedInAnew(Checked):
    def test_after_rewriting(self):
        other = node(8, node(2, node(6)), node(1))
        for change in ([apply(1, 0, 0)], [step()], [run(3)], [apply(0, 1, 0), tree([]), step(), run(201)]):
            self.check(change + [tree(other)], other)
            self.check(change + [tree(other), apply(3, 0, 0)], node(1))
            self.check(change + [tree(SHAPE)], SHAPE)

    def test_steps_on_the_new_tree(self):
        told = ask(rule(node(1), node(2)), rule(node(2), node(3)), tree(node(0, node(1))), run(9),
                   tree(node(0, node(2))), run(9), nodes(),
                   tree(node(1, node(1), node(2))), step(), step(), nodes())
        self.assertEqual(told[3:], [[2, 0], [0], [1, 0], shown(node(0, node(3))), [0], [0], [1],
                                    shown(node(1, node(3), node(2)))])

    def test_rules_stay(self):
        told = ask(rule(node(1), node(2)), tree(node(1)), step(), tree(node(1)), rule(node(1), node(3)), step(),
                   nodes())
        self.assertEqual(told[2:], [[0], [0], [1], [0], [1, 2, 0]])

"""Promise 4: run is that many times step; and step goes on at the first place, by the first rule, in the first way."""

import unittest

from tests.helper import TOP, apply, ask, chain, find, node, nodes, one, row, rule, run, shown, step, tree, ways

SAME = rule(one(1), one(1))
GROW = rule(node(1, row(1)), node(1, row(1), node(2)))


def star(number):
    """A tree of one more than so many nodes."""
    return node(1, *[node(2)] * number)


class Order(unittest.TestCase):
    def check(self, shape, rules, number, expected):
        """A step applies the rule of that number and makes the expected tree of the shape."""
        told = ask(tree(shape), *rules, step(), nodes())
        self.assertEqual(told[1 + len(rules):], [[number], shown(expected)])

    def test_the_first_node_comes_before_the_first_rule(self):
        self.check(node(1, node(2)), [rule(node(2), node(8)), rule(node(1, row(1)), node(9, row(1)))], 1,
                   node(9, node(2)))
        self.check(node(0, node(1, node(3)), node(2)), [rule(node(2), node(8)), rule(node(3), node(9))], 1,
                   node(0, node(1, node(9)), node(2)))
        self.check(node(0, node(3), node(2), node(1)),
                   [rule(node(1), node(7)), rule(node(2), node(8)), rule(node(3), node(9))], 2,
                   node(0, node(9), node(2), node(1)))

    def test_the_first_of_several_nodes(self):
        self.check(node(0, node(1, node(2)), node(2), node(2)), [rule(node(2), node(9))], 0,
                   node(0, node(1, node(9)), node(2), node(2)))

    def test_the_first_rule_at_one_node(self):
        rules = [rule(node(5), node(7)), rule(node(1, row(1)), node(8)), rule(one(1), node(9))]
        self.check(node(1, node(5)), rules, 1, node(8))
        self.check(node(2, node(5)), rules, 2, node(9))
        self.check(node(1), [rule(node(1), node(8)), rule(node(1), node(9))], 0, node(8))
        self.check(node(0, node(1)), [rule(node(1), node(8)), rule(node(1), node(9))], 0, node(0, node(8)))

    def test_the_last_node(self):
        self.check(node(0, node(0, node(0)), node(1)), [rule(node(3)), rule(node(1), node(9))], 1,
                   node(0, node(0, node(0)), node(9)))

    def test_the_last_of_16_rules(self):
        rules = [rule(node(100 + k)) for k in range(15)] + [rule(node(1), node(9))]
        self.check(node(0, node(1)), rules, 15, node(0, node(9)))
        rules = [rule(one(1), node(k)) for k in range(16)]
        self.check(node(0, node(1)), rules, 0, node(0))

    def test_way_0(self):
        below = [node(3), node(4), node(5)]
        self.check(node(1, *below), [rule(node(1, row(1), one(2), row(3)), node(8, row(3), one(2), row(1)))], 0,
                   node(8, node(4), node(5), node(3)))
        self.check(node(1, *below), [rule(node(1, row(1), row(2)), node(8, node(6, row(1)), node(7, row(2))))], 0,
                   node(8, node(6), node(7, *below)))
        self.check(node(1, *below), [rule(node(1, row(1), node(4), row(2)), node(8, row(2), row(1)))], 0,
                   node(8, node(5), node(3)))

    def test_way_0_where_fewer_lead_nowhere(self):
        shape = node(1, node(3), node(4), node(5), node(4), node(5))
        self.check(shape, [rule(node(1, row(1), one(2), row(3), one(2), row(4)), node(8, row(1), row(3), row(4)))], 0,
                   node(8, node(3), node(5), node(5)))
        self.check(shape, [rule(node(1, row(1), node(5), row(2), node(5), row(3)), node(8, row(1), node(9), row(2)))],
                   0, node(8, node(3), node(4), node(9), node(4)))
        deep = node(1, node(2, node(3)), node(2, node(4), node(3)), node(2, node(4), node(4)))
        self.check(deep, [rule(node(1, row(1), node(2, row(2), node(4), row(3))), node(8, row(1), node(9), row(3)))],
                   0, node(8, *deep[2][:2], node(9), node(4)))

    def test_one_step_at_a_time(self):
        told = ask(tree(node(0, node(1), node(1))), rule(node(1), node(2)), rule(node(2), node(3)),
                   step(), nodes(), step(), nodes(), step(), nodes(), step(), nodes(), step())
        self.assertEqual(told[3:], [[0], shown(node(0, node(2), node(1))), [1], shown(node(0, node(3), node(1))),
                                    [0], shown(node(0, node(3), node(2))), [1], shown(node(0, node(3), node(3))),
                                    [-1]])

    def test_a_place_further_to_the_front_may_come_up(self):
        told = ask(tree(node(0, node(1), node(2))), rule(node(2), node(3)),
                   rule(node(0, one(1), node(3)), node(4, one(1))), step(), step(), step(), nodes())
        self.assertEqual(told[3:], [[0], [1], [-1], shown(node(4, node(1)))])


class NoStep(unittest.TestCase):
    def test_no_tree(self):
        self.assertEqual(ask(step(), nodes()), [[-1], [0]])
        self.assertEqual(ask(rule(one(1), node(9)), step(), nodes()), [[0], [-1], [0]])

    def test_no_rule(self):
        self.assertEqual(ask(tree(star(2)), step(), nodes()), [[0], [-1], shown(star(2))])
        self.assertEqual(ask(tree(star(2)), rule(row(1)), step(), nodes()), [[0], [-1], [-1], shown(star(2))])

    def test_none_matches(self):
        told = ask(tree(star(2)), rule(node(3)), rule(node(1)), rule(node(1, one(1))), step(), nodes())
        self.assertEqual(told[4:], [[-1], shown(star(2))])

    def test_a_rule_that_comes_later(self):
        told = ask(tree(star(1)), rule(node(3)), step(), rule(node(2), node(9)), step(), step(),
                   rule(node(1, row(1)), node(3)), rule(one(1), node(4)), step(), step(), nodes())
        self.assertEqual(told, [[0], [0], [-1], [1], [1], [-1], [2], [3], [2], [0], shown(node(0))])

    def test_too_large(self):
        told = ask(tree(star(255)), GROW, step(), nodes())
        self.assertEqual(told[2:], [[-3], shown(star(255))])
        told = ask(tree(star(254)), GROW, step(), step(), step(), nodes())
        self.assertEqual(told[2:], [[0], [-3], [-3], shown(star(255))])

    def test_too_large_though_a_later_rule_would_fit(self):
        told = ask(tree(star(255)), GROW, rule(node(1, row(1)), node(7)), rule(one(1), node(7)), step(), nodes())
        self.assertEqual(told[4:], [[-3], shown(star(255))])

    def test_too_large_though_a_later_node_would_fit(self):
        told = ask(tree(star(255)), rule(node(2), node(3)), GROW, step(), nodes())
        self.assertEqual(told[3:], [[-3], shown(star(255))])
        shape = node(1, node(4, node(2)), *[node(4)] * 253)
        told = ask(tree(shape), rule(node(4, row(1)), node(4, row(1), node(5))), step(), nodes())
        self.assertEqual(told[2:], [[-3], shown(shape)])

    def test_too_large_though_a_later_way_would_fit(self):
        shape = node(1, *[node(2)] * 200)
        told = ask(tree(shape), rule(node(1, row(1), row(2)), node(3, row(2), row(2))), step(), nodes(),
                   apply(0, 0, 200), nodes())
        self.assertEqual(told[2:], [[-3], shown(shape), [1], shown(node(3))])


class Run(unittest.TestCase):
    def check(self, before, n, answer, expected):
        self.assertEqual(ask(*before, run(n), nodes())[-2:], [answer, shown(expected)])

    def test_0(self):
        self.check([tree(star(1)), GROW], 0, [0, 1], star(1))
        self.check([tree(star(255)), GROW], 0, [0, 1], star(255))
        self.check([tree(star(1))], 0, [0, 1], star(1))
        self.check([tree(star(1)), rule(node(7))], 0, [0, 1], star(1))
        self.assertEqual(ask(run(0), nodes()), [[0, 1], [0]])

    def test_until_nothing_matches(self):
        before = [tree(star(3)), rule(node(2), node(9))]
        done = [node(1, *[node(9)] * k, *[node(2)] * (3 - k)) for k in range(4)]
        self.check(before, 1, [1, 1], done[1])
        self.check(before, 2, [2, 1], done[2])
        self.check(before, 3, [3, 1], done[3])
        self.check(before, 4, [3, 0], done[3])
        self.check(before, 200, [3, 0], done[3])
        self.check(before + [run(3)], 0, [0, 1], done[3])
        self.check(before + [run(3)], 1, [0, 0], done[3])
        self.check(before + [run(2)], 1, [1, 1], done[3])
        self.check(before + [run(2)], 2, [1, 0], done[3])

    def test_until_it_would_be_too_large(self):
        before = [tree(star(250)), GROW]
        self.check(before, 4, [4, 1], star(254))
        self.check(before, 5, [5, 1], star(255))
        self.check(before, 6, [5, 2], star(255))
        self.check(before, 200, [5, 2], star(255))
        self.check(before + [run(5)], 0, [0, 1], star(255))
        self.check(before + [run(5)], 1, [0, 2], star(255))

    def test_too_large_at_once(self):
        self.check([tree(star(255)), GROW], 1, [0, 2], star(255))
        self.check([tree(star(255)), GROW, rule(one(1), one(1))], 200, [0, 2], star(255))

    def test_nothing_matches_at_once(self):
        self.check([tree(star(3))], 5, [0, 0], star(3))
        self.check([tree(star(3)), rule(node(7))], 1, [0, 0], star(3))
        self.check([tree(star(3)), rule(node(7))], 200, [0, 0], star(3))

    def test_no_tree(self):
        for n in (1, 200):
            self.assertEqual(ask(run(n), nodes()), [[0, 0], [0]])
            self.assertEqual(ask(SAME, run(n), nodes()), [[0], [0, 0], [0]])

    def test_200(self):
        self.check([tree(star(3)), SAME], 199, [199, 1], star(3))
        self.check([tree(star(3)), SAME], 200, [200, 1], star(3))
        self.check([tree(star(1)), GROW], 200, [200, 1], star(201))
        self.check([tree(star(55)), GROW], 200, [200, 1], star(255))
        self.check([tree(star(56)), GROW], 200, [199, 2], star(255))

    def test_more_than_200(self):
        for n in (201, 202, 256, 1000, 2147483648, TOP):
            self.check([tree(star(3)), GROW], n, [-1], star(3))
            self.check([tree(star(3)), rule(node(7))], n, [-1], star(3))
            self.check([tree(star(255)), GROW], n, [-1], star(255))
            self.assertEqual(ask(run(n), nodes()), [[-1], [0]])

    def test_1000_together(self):
        told = ask(tree(star(3)), SAME, *[run(200)] * 5, run(201), run(TOP), nodes())
        self.assertEqual(told[2:], [[200, 1]] * 5 + [[-1], [-1], shown(star(3))])

    def test_a_rule_that_always_matches_anew(self):
        swap = rule(node(1, one(1), one(2)), node(1, one(2), one(1)))
        shape = node(1, node(3), node(1, node(4), node(5)))
        self.check([tree(shape), swap], 199, [199, 1], node(1, shape[2][1], node(3)))
        self.check([tree(shape), swap], 200, [200, 1], shape)
        turn = rule(node(1, one(1), row(2)), node(1, row(2), one(1)))
        self.check([tree(node(1, *[node(k) for k in range(10, 17)])), turn], 200, [200, 1],
                   node(1, *[node(10 + (k + 200) % 7) for k in range(7)]))

    def test_several_rules_in_turn(self):
        rules = [rule(node(1), node(2)), rule(node(2), node(3)), rule(node(3), node(1))]
        for n in range(7):
            self.check([tree(node(0, node(1), node(1)))] + rules, n, [n, 1], node(0, node(1 + n % 3), node(1)))

    def test_deep_trees(self):
        down = rule(node(2, node(1, row(1))), node(1, node(2, row(1))))
        self.check([tree(chain([2] + [1] * 255)), down], 200, [200, 1], chain([1] * 200 + [2] + [1] * 55))
        self.check([tree(chain([2] + [1] * 255)), down, run(200)], 200, [55, 0], chain([1] * 255 + [2]))


    def test_many_rules_on_a_large_tree(self):
        wide = [node(100 + k) for k in range(45)] + [node(5)] * 45
        failing = [
            node(1, row(1), node(5), row(2), node(5), row(3), node(9)),
            node(1, row(1), node(5), node(5), row(2), node(5), node(9), row(3)),
            node(1, row(1), node(5), row(1), node(5), row(3), node(9)),
            node(1, row(1), one(7), row(2), one(7), node(144), row(3)),
            node(1, row(1), row(2), row(2), one(7), one(7), one(7)),
            node(7, node(7, node(7, node(7, node(7, node(7, node(7, node(9)))))))),
            node(7, one(1), one(2), row(3)),
        ]
        down = rule(node(2, node(7, row(1))), node(7, node(2, row(1))))
        before = [tree(node(1, *wide, chain([2] + [7] * 160 + [50])))] + [rule(shape) for shape in failing * 2]
        self.check(before + [down], 159, [159, 1], node(1, *wide, chain([7] * 159 + [2, 7, 50])))
        self.check(before + [down], 200, [160, 0], node(1, *wide, chain([7] * 160 + [2, 50])))


class RunIsStep(unittest.TestCase):
    worlds = [
        [tree(star(3)), rule(node(2), node(9))],
        [tree(star(250)), GROW],
        [tree(star(3)), SAME],
        [tree(node(0, node(1, node(1)), node(2))), rule(node(1, row(1)), node(3, row(1), row(1))),
         rule(node(2), node(1, node(2))), rule(node(0, row(1), node(3, row(2))), node(0, row(2), row(1)))],
        [tree(node(1, node(1, node(1, node(1))))), rule(node(1, one(1)), node(2, one(1), one(1)))],
        [tree(chain([1] * 6)), rule(node(1, one(1)), node(2, node(1, one(1)), node(1, one(1)))),
         rule(node(2, row(1)), node(3, row(1)))],
        [tree(node(5, *[node(k) for k in (3, 1, 2, 5, 4)])), rule(node(5, row(1), node(2), node(1), row(2)),
         node(5, row(1), node(1), node(2), row(2))), rule(node(5, row(1), one(3), node(1), row(2)),
         node(5, row(1), node(1), one(3), row(2)))],
        [tree(star(2))],
        [rule(one(1))],
    ]

    def test_so_many_steps(self):
        for world in self.worlds:
            for n in list(range(12)) + [60, 200]:
                stepped = ask(*world, *[step()] * n, nodes(), find(0, 0), ways(0, 0))[len(world):]
                steps = stepped[:n]
                done = len([told for told in steps if told[0] >= 0])
                why = 1 if done == n else {-1: 0, -3: 2}[steps[done][0]]
                told = ask(*world, run(n), nodes(), find(0, 0), ways(0, 0))[len(world):]
                self.assertEqual(told, [[done, why]] + stepped[n:], (world, n))

    def test_a_run_in_pieces(self):
        for world in self.worlds:
            whole = ask(*world, run(9), nodes())[len(world):]
            parts = ask(*world, run(2), run(0), step(), run(6), nodes())[len(world):]
            self.assertEqual(parts[-1], whole[-1])
            self.assertEqual(parts[1], [0, 1])
            done = parts[0][0] + (parts[2][0] >= 0) + parts[3][0]
            self.assertEqual([done, parts[3][1]], whole[0])

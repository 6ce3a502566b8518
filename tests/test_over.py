"""Promise 4: over and idom."""

import random
import unittest

from tests.helper import LEAST, MOST, ask, blocks, built, graphs_of_three, meant_over


def over_table(graph):
    """For each block b the list of the blocks over it, as the desk answers."""
    count = len(graph)
    calls = built(graph)
    asked = [("over", a, b) for b in range(count) for a in range(count)]
    told = []
    for first in range(0, len(asked), 200):
        told += ask(calls + asked[first:first + 200])[len(calls):]
    return [[a for a in range(count) if told[b * count + a] == 1] for b in range(count)]


def idom_table(graph):
    calls = built(graph)
    return ask(calls + [("idom", b) for b in range(len(graph))])[len(calls):]


def meant_idom(graph):
    table = meant_over(graph)
    found = []
    for b, above in enumerate(table):
        others = [a for a in above if a != b]
        nearest = [c for c in others if all(a in table[c] for a in others if a != c)]
        found.append(nearest[0] if nearest else -1)
    return found


class Shapes(unittest.TestCase):
    def check(self, graph, overs, idoms):
        self.assertEqual(over_table(graph), overs)
        self.assertEqual(idom_table(graph), idoms)

    def test_one_block(self):
        for goals in [None, (), (0,), (0, 0), (1,), (1, 63)]:
            self.check([goals], [[0]], [-1])

    def test_a_straight_line(self):
        self.check([(1,), (2,), (3,), ()], [[0], [0, 1], [0, 1, 2], [0, 1, 2, 3]], [-1, 0, 1, 2])

    def test_a_straight_line_against_the_numbers(self):
        self.check([(3,), (), (1,), (2,)], [[0], [0, 1, 2, 3], [0, 2, 3], [0, 3]], [-1, 2, 3, 0])

    def test_a_fork_that_meets_again(self):
        self.check([(1, 2), (3,), (3,), ()], [[0], [0, 1], [0, 2], [0, 3]], [-1, 0, 0, 0])

    def test_a_fork_behind_a_line(self):
        graph = [(1,), (2, 3), (4,), (4,), (5,), ()]
        overs = [[0], [0, 1], [0, 1, 2], [0, 1, 3], [0, 1, 4], [0, 1, 4, 5]]
        self.check(graph, overs, [-1, 0, 1, 1, 1, 4])

    def test_a_fork_whose_one_arm_is_empty(self):
        self.check([(1, 2), (2,), ()], [[0], [0, 1], [0, 2]], [-1, 0, 0])

    def test_a_fork_both_of_whose_arms_are_one(self):
        self.check([(1, 1), ()], [[0], [0, 1]], [-1, 0])

    def test_a_loop(self):
        self.check([(1,), (2, 3), (1,), ()], [[0], [0, 1], [0, 1, 2], [0, 1, 3]], [-1, 0, 1, 1])

    def test_a_loop_back_to_block_0(self):
        self.check([(1,), (0, 2), ()], [[0], [0, 1], [0, 1, 2]], [-1, 0, 1])

    def test_a_block_that_leads_to_itself(self):
        self.check([(1,), (1, 2), ()], [[0], [0, 1], [0, 1, 2]], [-1, 0, 1])

    def test_a_loop_within_a_loop(self):
        graph = [(1,), (2,), (2, 3), (1, 4), ()]
        self.check(graph, [[0], [0, 1], [0, 1, 2], [0, 1, 2, 3], [0, 1, 2, 3, 4]], [-1, 0, 1, 2, 3])

    def test_a_loop_with_two_ways_in(self):
        self.check([(1, 2), (2,), (1, 3), ()], [[0], [0, 1], [0, 2], [0, 2, 3]], [-1, 0, 0, 2])

    def test_ways_that_block_0_does_not_reach(self):
        graph = [(1,), (), (1,), (4,), (3,), None]
        self.check(graph, [[0], [0, 1], [], [], [], []], [-1, 0, -1, -1, -1, -1])

    def test_a_way_in_from_an_unreached_block_does_not_count(self):
        graph = [(1,), (2,), (), (2, 0)]
        self.check(graph, [[0], [0, 1], [0, 1, 2], []], [-1, 0, 1, -1])

    def test_nothing_is_behind_a_ret_or_a_block_without_an_end(self):
        self.check([(), ()], [[0], []], [-1, -1])
        self.check([None, ()], [[0], []], [-1, -1])
        self.check([(1,), None, ()], [[0], [0, 1], []], [-1, 0, -1])

    def test_an_end_that_leads_to_blocks_that_are_not_there(self):
        self.check([(1, 3), (2, 63), (5,)], [[0], [0, 1], [0, 1, 2]], [-1, 0, 1])

    def test_the_longest_line(self):
        graph = [(b + 1,) for b in range(63)] + [()]
        self.assertEqual(idom_table(graph), list(range(-1, 63)))
        self.assertEqual(over_table(graph), [list(range(b + 1)) for b in range(64)])


class BlocksThatComeLater(unittest.TestCase):
    def test_the_end_leads_there_once_the_block_is_there(self):
        calls = [("block",), ("jump", 0, 1), ("over", 0, 1), ("idom", 1), ("block",), ("over", 0, 1), ("idom", 1)]
        self.assertEqual(ask(calls), [0, 0, -2, -2, 1, 1, 0])

    def test_a_second_way_opens_when_its_block_comes(self):
        calls = blocks(3) + [("branch", 0, 0, 1, 3), ("jump", 1, 2)]
        before = [("over", 1, 2), ("idom", 2)]
        after = [("block",), ("over", 1, 2), ("jump", 3, 2), ("over", 1, 2), ("idom", 2), ("idom", 3)]
        self.assertEqual(ask(calls + before + after)[5:], [1, 1, 3, 1, 0, 0, 0, 0])

    def test_an_end_given_later_changes_what_is_reached(self):
        calls = blocks(2) + [("over", 0, 1), ("over", 1, 1), ("idom", 1), ("jump", 0, 1),
                             ("over", 0, 1), ("over", 1, 1), ("idom", 1)]
        self.assertEqual(ask(calls)[2:], [0, 0, -1, 0, 1, 1, 0])

    def test_after_init_nothing_of_it_is_left(self):
        calls = blocks(2) + [("jump", 0, 1), ("init",)] + blocks(2) + [("over", 0, 1), ("over", 0, 0), ("idom", 1)]
        self.assertEqual(ask(calls)[-3:], [0, 1, -1])


class WhatIsRefused(unittest.TestCase):
    def test_of_blocks_that_are_not_there(self):
        calls = blocks(2) + [("jump", 0, 1)]
        for b in [LEAST, -1, 2, 63, 64, MOST]:
            asked = [("over", b, 0), ("over", 0, b), ("over", b, b), ("idom", b)]
            self.assertEqual(ask(calls + asked)[3:], [-2, -2, -2, -2], b)

    def test_without_blocks(self):
        self.assertEqual(ask([("over", 0, 0), ("idom", 0), ("idom", -1)]), [-2, -2, -2])

    def test_the_last_block_there_can_be(self):
        calls = blocks(64) + [("jump", 0, 63)]
        self.assertEqual(ask(calls + [("over", 63, 63), ("idom", 63), ("over", 63, 64)])[65:], [1, 0, -2])

    def test_asking_changes_nothing(self):
        calls = blocks(3) + [("jump", 0, 1), ("jump", 1, 2)]
        asked = [("over", 1, 2), ("over", 2, 9), ("idom", 2), ("idom", -1)]
        self.assertEqual(ask(calls + asked * 3)[5:], [1, -2, 1, -2] * 3)


class AgainstAllWays(unittest.TestCase):
    def check(self, graph):
        count = len(graph)
        calls = built(graph)
        asked = [("over", a, b) for b in range(count) for a in range(count)] + [("idom", b) for b in range(count)]
        told = ask(calls + asked)[len(calls):]
        table = meant_over(graph)
        meant = [int(a in table[b]) for b in range(count) for a in range(count)] + meant_idom(graph)
        self.assertEqual(told, meant, graph)

    def test_every_function_of_three_blocks(self):
        for graph in graphs_of_three():
            self.check(graph)

    def test_larger_functions(self):
        source = random.Random(20)
        for turn in range(400):
            count = source.randint(4, 9)
            graph = []
            for b in range(count):
                goals = tuple(source.randint(0, count) for way in range(source.choice([0, 1, 1, 2, 2, 2, 2])))
                graph.append(goals if goals or source.randint(0, 1) else None)
            self.check(graph)


if __name__ == "__main__":
    unittest.main()

"""Promise 5: front."""

import unittest

from tests.helper import LEAST, MOST, ask, asked_of, blocks, built, each, of


class Front(unittest.TestCase):
    def check(self, graph, fronts):
        self.assertEqual(each("front", built(graph), len(graph)), [of(*front) for front in fronts])

    def test_nothing_where_no_ways_meet(self):
        self.check([()], [()])
        self.check([None], [()])
        self.check([(1,), (2,), ()], [(), (), ()])
        self.check([(1, 2), (), ()], [(), (), ()])
        self.check([(1, 1), ()], [(), ()])

    def test_a_block_that_b_is_not_over(self):
        self.check([(1, 2), (3,), (3,), ()], [(), (3,), (3,), ()])

    def test_a_fork_whose_one_arm_is_empty(self):
        self.check([(1, 2), (2,), ()], [(), (2,), ()])

    def test_what_stands_under_b_counts_for_b_too(self):
        self.check([(1, 4), (2,), (3,), (4,), ()], [(), (4,), (4,), (4,), ()])

    def test_several_blocks_in_one_front(self):
        self.check([(1, 2), (3, 4), (3,), (5,), (5,), ()], [(), (3, 5), (3,), (5,), (5,), ()])

    def test_the_head_of_a_loop_is_in_its_own_front(self):
        self.check([(1,), (2, 3), (1,), ()], [(), (1,), (1,), ()])

    def test_a_block_that_leads_to_itself(self):
        self.check([(1,), (1, 2), ()], [(), (1,), ()])

    def test_block_0_where_a_way_leads_back_to_it(self):
        self.check([(1,), (0, 2), ()], [(0,), (0,), ()])
        self.check([(0,)], [(0,)])

    def test_a_loop_within_a_loop(self):
        self.check([(1,), (2,), (2, 3), (1, 4), ()], [(), (1,), (1, 2), (1,), ()])

    def test_a_loop_with_two_ways_in(self):
        self.check([(1, 2), (2,), (1, 3), ()], [(), (2,), (1,), ()])

    def test_a_way_from_a_block_that_is_not_reached_does_not_count(self):
        self.check([(1,), (2,), (), (2,)], [(), (), (), ()])
        self.check([(1,), (), (0, 1)], [(), (), ()])

    def test_of_a_block_that_is_not_reached(self):
        self.check([(), (1, 0)], [(), ()])
        self.check([(1,), (), (3, 1), (2, 3)], [(), (), (), ()])

    def test_a_goal_that_is_not_there_is_in_no_front(self):
        self.check([(1, 5), (5, 63)], [(), ()])

    def test_it_is_there_once_the_block_is_made(self):
        calls = blocks(2) + [("branch", 0, 0, 1, 2), ("jump", 1, 2)]
        self.assertEqual(asked_of(calls, [("front", 1), ("block",), ("front", 1)]), [0, 2, of(2)])

    def test_the_last_block_there_can_be(self):
        calls = blocks(64) + [("branch", 0, 0, 1, 63), ("jump", 1, 63)]
        self.assertEqual(asked_of(calls, [("front", 1), ("front", 0), ("front", 63)]), [2 ** 63, 0, 0])

    def test_of_blocks_that_are_not_there(self):
        self.assertEqual(ask([("front", 0), ("front", -1)]), [0, 0])
        for b in [LEAST, -1, 2, 63, 64, MOST]:
            self.assertEqual(asked_of(built([(1,), (0, 1)]), [("front", b)]), [0], b)


if __name__ == "__main__":
    unittest.main()

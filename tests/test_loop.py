"""Promise 5: loop."""

import unittest

from tests.helper import LEAST, MOST, ask, asked_of, blocks, built, each, of


class Loop(unittest.TestCase):
    def check(self, graph, loops):
        self.assertEqual(each("loop", built(graph), len(graph)), [of(*loop) for loop in loops])

    def test_no_way_back(self):
        self.check([()], [()])
        self.check([None], [()])
        self.check([(1, 2), (3,), (3,), ()], [(), (), (), ()])

    def test_a_block_that_leads_to_itself(self):
        self.check([(0,)], [(0,)])
        self.check([(1,), (1, 2), ()], [(), (1,), ()])
        self.check([(1,), (1, 1)], [(), (1,)])

    def test_a_loop_of_two_blocks(self):
        self.check([(1,), (2, 3), (1,), ()], [(), (1, 2), (), ()])

    def test_back_to_block_0(self):
        self.check([(1,), (0, 2), ()], [(0, 1), (), ()])

    def test_all_blocks_on_the_way_round(self):
        self.check([(1,), (2,), (3,), (4,), (1, 5), ()], [(), (1, 2, 3, 4), (), (), (), ()])

    def test_a_fork_within_the_loop(self):
        self.check([(1,), (2, 3), (4,), (4,), (1, 5), ()], [(), (1, 2, 3, 4), (), (), (), ()])

    def test_a_way_out_is_not_in_it(self):
        self.check([(1,), (2, 5), (3, 4), (1,), (), ()], [(), (1, 2, 3), (), (), (), ()])

    def test_two_ways_back_into_one_head(self):
        self.check([(1,), (2, 3), (1,), (1, 4), ()], [(), (1, 2, 3), (), (), ()])

    def test_the_head_leads_to_itself_and_is_led_back_to(self):
        self.check([(1,), (1, 2), (1, 3), ()], [(), (1, 2), (), ()])

    def test_a_loop_within_a_loop(self):
        self.check([(1,), (2,), (2, 3), (1, 4), ()], [(), (1, 2, 3), (2,), (), ()])
        self.check([(1,), (2,), (3,), (2, 4), (1, 0)], [(0, 1, 2, 3, 4), (1, 2, 3, 4), (2, 3), (), ()])

    def test_the_inner_loop_has_nothing_of_the_outer_one(self):
        self.check([(1,), (1, 2), (0, 3), ()], [(0, 1, 2), (1,), (), ()])

    def test_two_loops_one_behind_the_other(self):
        self.check([(1,), (1, 2), (3,), (2, 4), ()], [(), (1,), (2, 3), (), ()])

    def test_ways_back_to_a_block_that_is_not_over_them(self):
        self.check([(1, 2), (2,), (1, 3), ()], [(), (), (), ()])

    def test_a_loop_around_one_with_two_ways_in(self):
        self.check([(1, 2), (2,), (1, 3), (0,)], [(0, 1, 2, 3), (), (), ()])

    def test_blocks_that_are_not_reached_and_lead_into_it_are_not_in_it(self):
        self.check([(1,), (2,), (1,), (2,), (3, 1)], [(), (1, 2), (), (), ()])

    def test_a_way_back_from_a_block_that_is_not_reached(self):
        self.check([(1,), (), (1,)], [(), (), ()])

    def test_loops_that_are_not_reached(self):
        self.check([(), (1,), (3,), (2,)], [(), (), (), ()])

    def test_it_is_there_once_its_block_is_made(self):
        calls = blocks(1) + [("branch", 0, 0, 1, 2)]
        told = asked_of(calls, [("loop", 0), ("block",), ("jump", 1, 0), ("loop", 0)])
        self.assertEqual(told, [0, 1, 0, of(0, 1)])

    def test_all_blocks_there_can_be(self):
        calls = built([(b + 1,) for b in range(63)] + [(0,)])
        self.assertEqual(asked_of(calls, [("loop", 0), ("loop", 63)]), [2 ** 64 - 1, 0])

    def test_of_blocks_that_are_not_there(self):
        self.assertEqual(ask([("loop", 0), ("loop", -1)]), [0, 0])
        for b in [LEAST, -1, 2, 63, 64, MOST]:
            self.assertEqual(asked_of(built([(1,), (0, 1)]), [("loop", b)]), [0], b)


if __name__ == "__main__":
    unittest.main()

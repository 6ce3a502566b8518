"""Promise 6: in (named in_of) and out."""

import unittest

from tests.helper import LEAST, MOST, ask, asked_of, blocks, each, made, of

ANYTHING = [LEAST, -1, 0, 5, 31, 32, MOST]


class InOneBlock(unittest.TestCase):
    def check(self, steps, end, live):
        function = [(steps, end)]
        self.assertEqual(asked_of(made(function), [("in_of", 0), ("out", 0)]), [of(*live), 0])

    def test_nothing_is_used(self):
        self.check([], None, ())
        self.check([(5, 3, 0, 0)], None, ())

    def test_steps_use_what_they_read(self):
        for op in [0, 1, 2, 3]:
            self.check([(op, 1, 2, 3)], None, (2, 3))
            self.check([(op, 1, 2, 2)], None, (2,))
            self.check([(op, 0, 0, 31)], None, (0, 31))

    def test_op_4_uses_x_alone(self):
        for y in ANYTHING:
            self.check([(4, 1, 2, y)], None, (2,))
            self.check([(4, 1, 0, y)], None, (0,))

    def test_op_5_uses_none(self):
        for x in ANYTHING:
            for y in ANYTHING:
                self.check([(5, 1, x, y)], None, ())

    def test_a_ret_uses_its_variable(self):
        self.check([], ("ret", 0), (0,))
        self.check([], ("ret", 31), (31,))

    def test_a_branch_uses_its_variable(self):
        self.check([], ("branch", 4, 1, 2), (4,))

    def test_a_jump_uses_none(self):
        self.check([], ("jump", 1), ())

    def test_a_step_that_uses_and_gives_the_same_variable_uses_it_first(self):
        for op in [0, 1, 2, 3]:
            self.check([(op, 1, 1, 2)], None, (1, 2))
            self.check([(op, 2, 1, 2)], None, (1, 2))
        self.check([(4, 7, 7, 0)], None, (7,))

    def test_given_before_it_is_used(self):
        self.check([(5, 1, 0, 9), (0, 2, 1, 3)], ("ret", 2), (3,))
        self.check([(5, 1, 0, 9)], ("ret", 1), ())
        self.check([(5, 1, 0, 9)], ("branch", 1, 1, 1), ())
        self.check([(4, 1, 2, 0)], ("ret", 1), (2,))

    def test_used_before_it_is_given(self):
        self.check([(0, 2, 1, 3), (5, 1, 0, 9)], ("ret", 1), (1, 3))

    def test_given_twice_and_used_between(self):
        self.check([(5, 1, 0, 0), (4, 2, 1, 0), (5, 1, 0, 0)], ("ret", 1), ())

    def test_what_is_given_and_never_used_does_not_matter(self):
        self.check([(0, 9, 1, 2), (0, 9, 3, 4)], ("ret", 5), (1, 2, 3, 4, 5))


class OnTheWaysOn(unittest.TestCase):
    def check(self, function, ins, outs):
        calls = made(function)
        self.assertEqual(each("in_of", calls, len(function)), [of(*live) for live in ins])
        self.assertEqual(each("out", calls, len(function)), [of(*live) for live in outs])

    def test_a_use_behind_a_block_that_does_not_give(self):
        self.check([([], ("jump", 1)), ([], ("ret", 6))], [(6,), (6,)], [(6,), ()])

    def test_a_use_behind_a_block_that_gives(self):
        self.check([([(5, 6, 0, 1)], ("jump", 1)), ([], ("ret", 6))], [(), (6,)], [(6,), ()])

    def test_a_use_on_one_way_of_two(self):
        function = [([], ("branch", 0, 1, 2)), ([(5, 3, 0, 1)], ("jump", 3)), ([], ("jump", 3)), ([], ("ret", 3))]
        self.check(function, [(0, 3), (), (3,), (3,)], [(3,), (3,), (3,), ()])

    def test_both_goals_of_a_branch_count(self):
        function = [([], ("branch", 0, 1, 2)), ([], ("ret", 1)), ([], ("ret", 2))]
        self.check(function, [(0, 1, 2), (1,), (2,)], [(1, 2), (), ()])

    def test_ways_round_a_loop(self):
        function = [
            ([(5, 1, 0, 1)], ("jump", 1)),
            ([], ("branch", 0, 2, 3)),
            ([(0, 2, 2, 0), (1, 0, 0, 1)], ("jump", 1)),
            ([], ("ret", 2))]
        self.check(function, [(0, 2), (0, 1, 2), (0, 1, 2), (2,)], [(0, 1, 2), (0, 1, 2), (0, 1, 2), ()])

    def test_a_block_that_leads_to_itself(self):
        self.check([([(4, 1, 2, 0), (5, 2, 0, 0)], ("jump", 0))], [(2,)], [(2,)])
        self.check([([(5, 2, 0, 0), (4, 1, 2, 0)], ("jump", 0))], [()], [()])

    def test_a_loop_that_no_way_leads_out_of(self):
        self.check([([], ("jump", 1)), ([], ("jump", 0))], [(), ()], [(), ()])

    def test_a_use_is_carried_through_loops_within_loops(self):
        function = [
            ([], ("jump", 3)), ([], ("ret", 9)), ([], ("branch", 8, 3, 1)), ([], ("branch", 7, 3, 4)),
            ([(5, 7, 0, 0)], ("jump", 2))]
        self.check(function, [(7, 8, 9), (9,), (7, 8, 9), (7, 8, 9), (8, 9)],
                   [(7, 8, 9), (), (7, 8, 9), (7, 8, 9), (7, 8, 9)])

    def test_along_the_longest_line_in_either_order(self):
        up = [([], ("jump", b + 1)) for b in range(63)] + [([], ("ret", 30))]
        self.check(up, [(30,)] * 64, [(30,)] * 63 + [()])
        down = [([], ("jump", 63)), ([], ("ret", 30))] + [([], ("jump", b - 1)) for b in range(2, 64)]
        self.check(down, [(30,)] * 64, [(30,), ()] + [(30,)] * 62)

    def test_blocks_that_are_not_reached_have_their_in_and_out_too(self):
        function = [([], ("ret", 0)), ([(4, 1, 2, 0)], ("jump", 2)), ([], ("branch", 3, 0, 1))]
        self.check(function, [(0,), (0, 2, 3), (0, 2, 3)], [(), (0, 2, 3), (0, 2, 3)])

    def test_behind_a_ret_and_without_an_end_out_is_0(self):
        self.check([([], ("ret", 1)), ([], ("ret", 2))], [(1,), (2,)], [(), ()])
        self.check([([(4, 1, 2, 0)], None), ([], ("ret", 2))], [(2,), (2,)], [(), ()])

    def test_a_goal_that_is_not_there_yet_adds_nothing(self):
        calls = blocks(1) + [("branch", 0, 4, 1, 2)]
        asked = [("in_of", 0), ("out", 0), ("block",), ("ret", 1, 5), ("in_of", 0), ("out", 0), ("block",),
                 ("ret", 2, 6), ("in_of", 0), ("out", 0)]
        self.assertEqual(asked_of(calls, asked), [of(4), 0, 1, 0, of(4, 5), of(5), 2, 0, of(4, 5, 6), of(5, 6)])

    def test_all_variables(self):
        steps = [(0, 0, 2 * i, 2 * i + 1) for i in range(1, 16)]
        self.check([([(0, 0, 0, 1)] + steps, ("jump", 1)), ([], None)], [range(32), ()], [(), ()])

    def test_it_grows_step_by_step(self):
        calls = [("block",), ("in_of", 0), ("op", 0, 4, 1, 2, 0), ("in_of", 0), ("op", 0, 0, 2, 1, 3), ("in_of", 0),
                 ("ret", 0, 2), ("in_of", 0), ("init",), ("in_of", 0), ("block",), ("in_of", 0)]
        self.assertEqual(ask(calls), [0, 0, 0, of(2), 0, of(2, 3), 0, of(2, 3), 0, 0, 0, 0])


class OfBlocksThatAreNotThere(unittest.TestCase):
    def test_without_blocks(self):
        self.assertEqual(ask([("in_of", 0), ("out", 0), ("in_of", -1), ("out", -1)]), [0, 0, 0, 0])

    def test_with_blocks(self):
        calls = made([([], ("branch", 1, 1, 2)), ([], ("branch", 2, 0, 1))])
        for b in [LEAST, -2, -1, 2, 63, 64, MOST]:
            self.assertEqual(asked_of(calls, [("in_of", b), ("out", b)]), [0, 0], b)


if __name__ == "__main__":
    unittest.main()

"""Promise 10: run."""

import unittest

from tests.helper import LEAST_LONG, MOST_LONG, ZEROS, ask, asked_of, blocks, last, variables

# v2 becomes the sum of v0, v0 - 1 and so on down to 1; v1 is the 1 that is taken off.
SUM = blocks(4) + [
    ("op", 0, 5, 2, 0, 0), ("op", 0, 5, 1, 0, 1), ("jump", 0, 1),
    ("branch", 1, 0, 2, 3),
    ("op", 2, 0, 2, 2, 0), ("op", 2, 1, 0, 0, 1), ("jump", 2, 1),
    ("ret", 3, 2),
]


class Runs(unittest.TestCase):
    def test_a_ret_at_once(self):
        self.assertEqual(last([("block",), ("ret", 0, 5), ("run", 1, variables(v5=6))]), [0, 6])

    def test_a_loop(self):
        for count in [0, 1, 2, 10, 100]:
            told = last(SUM + [("run", 100000, variables(v0=count))])
            self.assertEqual(told, [0, count * (count + 1) // 2])

    def test_values_at_the_edges_come_back(self):
        for value in [LEAST_LONG, -1, 0, 1, MOST_LONG]:
            self.assertEqual(last([("block",), ("ret", 0, 31), ("run", 1, variables(v31=value))]), [0, value])

    def test_a_value_of_minus_1_or_3_is_no_refusal(self):
        for value in [-1, -2, -3]:
            self.assertEqual(last([("block",), ("ret", 0, 0), ("run", 1, variables(v0=value))]), [0, value])

    def test_it_begins_in_block_0(self):
        calls = blocks(2) + [("ret", 1, 1), ("ret", 0, 0), ("run", 5, variables(v0=3, v1=4))]
        self.assertEqual(last(calls), [0, 3])

    def test_each_run_begins_with_its_own_values(self):
        calls = [("block",), ("op", 0, 0, 0, 0, 1), ("ret", 0, 0)]
        asked = [("run", 2, variables(v0=1, v1=1)), ("run", 2, variables(v0=1, v1=1)), ("run", 2, ZEROS)]
        self.assertEqual(ask(calls + asked)[3:], [[0, 2], [0, 2], [0, 0]])

    def test_a_run_changes_nothing_of_the_function(self):
        calls = [("block",), ("op", 0, 5, 0, 0, 2), ("run", 5, ZEROS), ("op", 0, 5, 0, 0, 3), ("ret", 0, 0),
                 ("run", 3, ZEROS), ("run", 2, ZEROS), ("run", 3, ZEROS)]
        self.assertEqual(ask(calls), [0, 0, -3, 0, 0, [0, 3], -1, [0, 3]])


class WhatCounts(unittest.TestCase):
    def test_a_ret_counts_one(self):
        calls = [("block",), ("ret", 0, 0)]
        self.assertEqual(ask(calls + [("run", 0, ZEROS), ("run", 1, ZEROS), ("run", 2, ZEROS)])[2:],
                         [-1, [0, 0], [0, 0]])

    def test_a_step_counts_one(self):
        calls = [("block",), ("op", 0, 5, 0, 0, 7), ("op", 0, 5, 0, 0, 8), ("ret", 0, 0)]
        runs = [("run", steps, ZEROS) for steps in range(5)]
        self.assertEqual(ask(calls + runs)[4:], [-1, -1, -1, [0, 8], [0, 8]])

    def test_a_jump_and_a_branch_count_one(self):
        calls = blocks(3) + [("jump", 0, 1), ("branch", 1, 0, 0, 2), ("ret", 2, 3)]
        runs = [("run", steps, variables(v3=5)) for steps in range(5)]
        self.assertEqual(ask(calls + runs)[6:], [-1, -1, -1, [0, 5], [0, 5]])

    def test_a_loop_to_the_step(self):
        for count in [0, 1, 7, 50]:
            needed = 3 + 1 + 4 * count + 1
            calls = SUM + [("run", needed - 1, variables(v0=count)), ("run", needed, variables(v0=count))]
            self.assertEqual(ask(calls)[-2:], [-1, [0, count * (count + 1) // 2]])

    def test_a_loop_without_an_end(self):
        calls = [("block",), ("jump", 0, 0)]
        self.assertEqual(ask(calls + [("run", 0, ZEROS), ("run", 1, ZEROS), ("run", 1000, ZEROS)])[2:], [-1, -1, -1])

    def test_the_most_steps(self):
        calls = [("block",), ("op", 0, 0, 0, 0, 1), ("jump", 0, 0), ("run", 1000000, variables(v1=1))]
        self.assertEqual(last(calls), -1)

    def test_used_up_just_before_each_step_and_end(self):
        calls = blocks(2) + [("op", 0, 5, 0, 0, 1), ("op", 0, 5, 1, 0, 2), ("jump", 0, 1), ("op", 1, 0, 2, 0, 1),
                             ("ret", 1, 2)]
        self.assertEqual(asked_of(calls, [("run", steps, ZEROS) for steps in range(7)]), [-1] * 5 + [[0, 3]] * 2)

    def test_the_most_that_may_be_allowed(self):
        self.assertEqual(last([("block",), ("ret", 0, 9), ("run", 4294967295, variables(v9=1))]), [0, 1])


class NoWayOn(unittest.TestCase):
    def test_block_0_is_not_there(self):
        self.assertEqual(ask([("run", 0, ZEROS), ("run", 1, ZEROS), ("run", 4294967295, ZEROS)]), [-3, -3, -3])

    def test_a_block_without_an_end_counts_none(self):
        self.assertEqual(ask([("block",), ("run", 0, ZEROS), ("run", 9, ZEROS)])[1:], [-3, -3])

    def test_behind_its_steps(self):
        calls = [("block",), ("op", 0, 5, 0, 0, 7), ("op", 0, 5, 0, 0, 8)]
        runs = [("run", steps, ZEROS) for steps in range(4)]
        self.assertEqual(ask(calls + runs)[3:], [-1, -1, -3, -3])

    def test_a_block_that_is_not_there_counts_none(self):
        calls = [("block",), ("op", 0, 5, 0, 0, 7), ("jump", 0, 1)]
        runs = [("run", steps, ZEROS) for steps in range(4)]
        self.assertEqual(ask(calls + runs)[3:], [-1, -1, -3, -3])

    def test_the_jump_to_a_block_without_an_end_counts(self):
        calls = blocks(2) + [("jump", 0, 1), ("op", 1, 5, 0, 0, 7)]
        runs = [("run", steps, ZEROS) for steps in range(4)]
        self.assertEqual(ask(calls + runs)[4:], [-1, -1, -3, -3])

    def test_block_0_is_not_there_any_more(self):
        calls = [("block",), ("ret", 0, 0), ("init",)]
        self.assertEqual(asked_of(calls, [("run", 0, ZEROS), ("run", 5, ZEROS)]), [-3, -3])

    def test_a_branch_to_a_block_that_is_not_there(self):
        calls = [("block",), ("branch", 0, 0, 1, 2)]
        runs = [("run", steps, variables(v0=value)) for value in [0, 1] for steps in range(3)]
        self.assertEqual(asked_of(calls, runs), [-1, -3, -3] * 2)

    def test_it_is_there_once_the_block_is_made(self):
        calls = [("block",), ("jump", 0, 1), ("run", 9, ZEROS), ("block",), ("run", 9, ZEROS), ("ret", 1, 2),
                 ("run", 9, variables(v2=4))]
        self.assertEqual(ask(calls), [0, 0, -3, 1, -3, 0, [0, 4]])

    def test_round_a_loop_until_no_way_leads_on(self):
        # Each time round counts three; then the branch leads to a block without an end.
        calls = blocks(2) + [("op", 0, 5, 1, 0, -1), ("op", 0, 0, 0, 0, 1), ("branch", 0, 0, 0, 1)]
        self.assertEqual(asked_of(calls, [("run", 8, variables(v0=3)), ("run", 9, variables(v0=3))]), [-1, -3])

    def test_only_the_branch_that_is_taken_matters(self):
        calls = blocks(2) + [("branch", 0, 0, 63, 1), ("ret", 1, 1)]
        self.assertEqual(ask(calls + [("run", 9, variables(v0=1)), ("run", 9, variables(v1=2))])[4:], [-3, [0, 2]])


if __name__ == "__main__":
    unittest.main()

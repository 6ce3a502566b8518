"""Promise 3: jump, branch and ret."""

import unittest

from tests.helper import LEAST, LEAST_LONG, MOST, MOST_LONG, ZEROS, ask, blocks, last, variables

ENDS = [("jump", 0, 1), ("branch", 0, 0, 1, 2), ("ret", 0, 0)]
GOALS = [(0, 0), (63, 0), (1, 0), (-1, -2), (64, -2), (LEAST, -2), (MOST, -2)]
VARIABLES = [(0, 0), (31, 0), (-1, -2), (32, -2), (LEAST, -2), (MOST, -2)]


class OnWhichBlocks(unittest.TestCase):
    def test_on_a_block_without_an_end(self):
        for end in ENDS:
            self.assertEqual(ask([("block",), end]), [0, 0])

    def test_on_a_block_that_has_its_end(self):
        for first in ENDS:
            for second in ENDS:
                self.assertEqual(ask([("block",), first, second, second]), [0, 0, -2, -2])

    def test_the_first_end_stays(self):
        filling = [("op", 1, 5, 5, 0, 10), ("ret", 1, 5), ("op", 2, 5, 5, 0, 20), ("ret", 2, 5)]
        told = {"jump": [0, 10], "branch": [0, 20], "ret": [0, 0]}
        for first in ENDS:
            for second in ENDS:
                calls = blocks(3) + filling + [first, second, ("run", 9, ZEROS)]
                self.assertEqual(last(calls), told[first[0]], (first, second))

    def test_the_first_end_stays_for_over(self):
        calls = blocks(3) + [("jump", 0, 1), ("branch", 0, 0, 1, 2), ("jump", 0, 2), ("ret", 0, 0)]
        self.assertEqual(ask(calls + [("over", 0, 1), ("over", 0, 2)])[-2:], [1, 0])

    def test_on_a_block_that_is_not_there(self):
        for b in [LEAST, -1, 1, 63, 64, MOST]:
            told = ask([("block",), ("jump", b, 0), ("branch", b, 0, 0, 0), ("ret", b, 0)])
            self.assertEqual(told, [0, -2, -2, -2])
        self.assertEqual(ask([("jump", 0, 0), ("branch", 0, 0, 0, 0), ("ret", 0, 0)]), [-2, -2, -2])

    def test_each_block_has_its_own_end(self):
        calls = blocks(3) + [("jump", 0, 2), ("ret", 1, 0), ("branch", 2, 0, 1, 1), ("run", 3, variables(v0=6))]
        self.assertEqual(ask(calls)[3:], [0, 0, 0, [0, 6]])


class WhatTheyTake(unittest.TestCase):
    def test_to(self):
        for to, told in GOALS:
            self.assertEqual(last([("block",), ("jump", 0, to)]), told)

    def test_yes(self):
        for yes, told in GOALS:
            self.assertEqual(last([("block",), ("branch", 0, 0, yes, 0)]), told)

    def test_no(self):
        for no, told in GOALS:
            self.assertEqual(last([("block",), ("branch", 0, 0, 0, no)]), told)

    def test_v_of_branch(self):
        for v, told in VARIABLES:
            self.assertEqual(last([("block",), ("branch", 0, v, 0, 0)]), told)

    def test_v_of_ret(self):
        for v, told in VARIABLES:
            self.assertEqual(last([("block",), ("ret", 0, v)]), told)

    def test_a_refused_end_is_none(self):
        refused = [("jump", 0, 64), ("jump", 0, -1), ("branch", 0, 32, 0, 0), ("branch", 0, 0, 64, 0),
                   ("branch", 0, 0, 0, -1), ("ret", 0, 32), ("ret", 0, -1), ("jump", 1, 0)]
        calls = [("block",)] + refused
        self.assertEqual(ask(calls + [("run", 5, ZEROS)]), [0] + [-2] * 8 + [-3])
        self.assertEqual(ask(calls + [("op", 0, 5, 0, 0, 3), ("ret", 0, 0), ("run", 5, ZEROS)])[-3:], [0, 0, [0, 3]])

    def test_a_block_that_only_comes_later(self):
        calls = [("block",), ("jump", 0, 1), ("run", 5, ZEROS), ("block",), ("ret", 1, 4), ("run", 5, variables(v4=9))]
        self.assertEqual(ask(calls), [0, 0, -3, 1, 0, [0, 9]])

    def test_the_63rd_block_comes_later(self):
        calls = [("block",), ("branch", 0, 0, 63, 62)] + blocks(63) + [("ret", 63, 1), ("ret", 62, 2)]
        values = variables(v1=11, v2=22)
        self.assertEqual(last(calls + [("run", 2, values)]), [0, 22])
        self.assertEqual(last(calls + [("run", 2, [1] + values[1:])]), [0, 11])


class WhereTheyLead(unittest.TestCase):
    def test_branch_goes_to_yes_unless_v_is_0(self):
        calls = blocks(3) + [("branch", 0, 31, 1, 2), ("ret", 1, 1), ("ret", 2, 2)]
        for value, told in [(0, 22), (1, 11), (-1, 11), (2, 11), (2 ** 32, 11), (LEAST_LONG, 11), (MOST_LONG, 11)]:
            self.assertEqual(last(calls + [("run", 2, variables(v31=value, v1=11, v2=22))]), [0, told])

    def test_branch_sees_what_the_steps_gave(self):
        calls = blocks(3) + [("op", 0, 1, 0, 0, 3), ("branch", 0, 0, 1, 2), ("ret", 1, 1), ("ret", 2, 2)]
        self.assertEqual(last(calls + [("run", 9, variables(v0=5, v3=5, v1=11, v2=22))]), [0, 22])
        self.assertEqual(last(calls + [("run", 9, variables(v0=5, v3=4, v1=11, v2=22))]), [0, 11])

    def test_jump_goes_back_and_on(self):
        calls = blocks(3) + [("jump", 0, 2), ("jump", 2, 1), ("ret", 1, 31)]
        self.assertEqual(last(calls + [("run", 3, variables(v31=-5))]), [0, -5])

    def test_ret_gives_vs_value(self):
        values = [v * v - 100 for v in range(32)]
        for v in range(32):
            self.assertEqual(last([("block",), ("ret", 0, v), ("run", 1, values)]), [0, v * v - 100])


if __name__ == "__main__":
    unittest.main()

"""Promise 7: meet."""

import unittest

from tests.helper import LEAST, MOST, ask, asked_of, blocks, each, made, of

GIVES_3 = (5, 3, 0, 1)


def fork(yes, no, end):
    """Block 0 forks by v0 to 1 and 2, with these steps; both lead to 3, with that end."""
    return [([], ("branch", 0, 1, 2)), (yes, ("jump", 3)), (no, ("jump", 3)), ([], end)]


class Meet(unittest.TestCase):
    def check(self, function, meets):
        self.assertEqual(each("meet", made(function), len(function)), [of(*meet) for meet in meets])

    def test_one_block(self):
        self.check([([GIVES_3], ("ret", 3))], [()])
        self.check([([], None)], [()])

    def test_given_on_one_way_of_two(self):
        self.check(fork([GIVES_3], [], ("ret", 3)), [(), (), (), (3,)])
        self.check(fork([], [GIVES_3], ("ret", 3)), [(), (), (), (3,)])

    def test_given_on_both_ways(self):
        self.check(fork([GIVES_3], [(4, 3, 1, 0)], ("ret", 3)), [(), (), (), (3,)])

    def test_given_on_no_way(self):
        self.check(fork([], [], ("ret", 3)), [(), (), (), ()])
        self.check([([GIVES_3], ("branch", 0, 1, 2))] + fork([], [], ("ret", 3))[1:], [(), (), (), ()])

    def test_only_variables_that_are_in_in_of_b(self):
        self.check(fork([GIVES_3], [], ("ret", 4)), [(), (), (), ()])
        function = fork([GIVES_3], [], ("ret", 3))
        function[3] = ([GIVES_3], ("ret", 3))
        self.check(function, [(), (), (), ()])

    def test_used_first_and_then_given_in_b(self):
        function = fork([GIVES_3], [], ("ret", 3))
        function[3] = ([(0, 3, 3, 4)], ("ret", 3))
        self.check(function, [(), (), (), (3,)])

    def test_in_in_of_b_by_a_use_further_on(self):
        self.check(fork([GIVES_3], [], ("jump", 4)) + [([], ("ret", 3))], [(), (), (), (3,), ()])

    def test_several_variables(self):
        function = fork([GIVES_3, (5, 31, 0, 1), (5, 5, 0, 1)], [(5, 0, 0, 7)], ("branch", 0, 4, 5))
        function += [([], ("ret", 3)), ([], ("ret", 31))]
        self.check(function, [(), (), (), (0, 3, 31), (), ()])

    def test_the_head_of_a_loop(self):
        function = [
            ([(5, 1, 0, 1), (5, 2, 0, 0)], ("jump", 1)),
            ([], ("branch", 0, 2, 3)),
            ([(0, 2, 2, 0), (1, 0, 0, 1)], ("jump", 1)),
            ([], ("ret", 2))]
        self.check(function, [(), (0, 2), (), ()])

    def test_a_block_that_leads_to_itself(self):
        self.check([([], ("jump", 1)), ([(1, 0, 0, 1)], ("branch", 0, 1, 2)), ([], ("ret", 1))], [(), (0,), ()])

    def test_it_is_the_least_that_fits(self):
        # Were 3 one of those of block 1, that alone would make it one: block 1 is in its own front.
        self.check([([], ("jump", 1)), ([], ("branch", 0, 1, 2)), ([], ("ret", 3))], [(), (), ()])

    def test_a_block_where_it_meets_counts_as_one_that_gives_it(self):
        function = [
            ([], ("branch", 0, 1, 6)), ([], ("branch", 0, 2, 3)), ([GIVES_3], ("jump", 4)), ([], ("jump", 4)),
            ([], ("jump", 5)), ([], ("ret", 3)), ([], ("jump", 5))]
        self.check(function, [(), (), (), (), (3,), (3,), ()])

    def test_where_it_meets_in_a_chain_against_the_numbers(self):
        function = [
            ([], ("branch", 0, 6, 1)), ([], ("ret", 3)), ([], ("jump", 1)), ([], ("jump", 2)),
            ([GIVES_3], ("jump", 3)), ([], ("branch", 0, 4, 3)), ([], ("branch", 0, 5, 2))]
        self.check(function, [(), (3,), (3,), (3,), (), (), ()])

    def test_block_0_where_a_way_leads_back_to_it(self):
        self.check([([], ("branch", 0, 0, 1)), ([], ("ret", 3))], [(0, 3), ()])
        self.check([([(0, 4, 1, 2)], ("jump", 1)), ([], ("branch", 4, 0, 1))], [(1, 2), ()])

    def test_every_variable_meets_in_block_0(self):
        steps = [(0, 2 * i, 2 * i, 2 * i + 1) for i in range(16)]
        self.check([(steps, ("branch", 0, 0, 1)), ([], None)], [range(32), ()])

    def test_a_block_that_gives_one_and_where_another_meets_counts_for_both(self):
        # Block 3 gives v4, and v3 meets there; it leads on to block 6, where both meet.
        function = [
            ([], ("branch", 0, 1, 2)), ([], ("branch", 0, 5, 4)), ([], ("jump", 6)), ([(5, 4, 0, 1)], ("jump", 6)),
            ([], ("jump", 3)), ([GIVES_3], ("jump", 3)), ([(0, 3, 3, 4)], ("ret", 3))]
        self.check(function, [(), (), (), (3,), (), (), (3, 4)])

    def test_block_0_where_no_way_leads_back_to_it(self):
        self.check([([(0, 4, 1, 2)], ("branch", 4, 1, 1)), ([], ("ret", 3))], [(), ()])

    def test_block_0_meets_and_so_counts_for_no_other_front(self):
        self.check([([], ("branch", 0, 0, 1)), ([], ("branch", 0, 1, 2)), ([], ("ret", 3))], [(0, 3), (), ()])

    def test_of_blocks_that_are_not_reached(self):
        function = [([], ("ret", 0)), ([], ("branch", 1, 2, 3)), ([GIVES_3], ("jump", 3)), ([], ("ret", 3))]
        self.check(function, [(), (), (), ()])
        self.check([([], ("ret", 0)), ([(1, 1, 1, 2)], ("branch", 1, 1, 0))], [(), ()])

    def test_a_block_that_is_not_reached_gives_nothing(self):
        self.check([([], ("jump", 1)), ([], ("ret", 3)), ([GIVES_3], ("jump", 1))], [(), (), ()])
        self.check(fork([], [], ("ret", 3)) + [([GIVES_3], ("jump", 3))], [(), (), (), (), ()])

    def test_it_changes_as_the_function_grows(self):
        calls = blocks(3) + [("branch", 0, 0, 1, 2), ("op", 1, 5, 3, 0, 1), ("ret", 2, 3)]
        told = asked_of(calls, [("meet", 2), ("jump", 1, 2), ("meet", 2), ("init",), ("meet", 2)])
        self.assertEqual(told, [0, 0, of(3), 0, 0])

    def test_of_blocks_that_are_not_there(self):
        self.assertEqual(ask([("meet", 0), ("meet", -1), ("meet", 63)]), [0, 0, 0])
        for b in [LEAST, -2, -1, 2, 63, 64, MOST]:
            calls = made([([], ("branch", 0, 0, 1)), ([(1, 1, 1, 2)], ("branch", 1, 1, 0))])
            self.assertEqual(asked_of(calls, [("meet", b)]), [0], b)


if __name__ == "__main__":
    unittest.main()

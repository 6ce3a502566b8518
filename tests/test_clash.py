"""Promise 8: clash."""

import unittest

from tests.helper import LEAST, MOST, ask, asked_of, blocks, each, made, of


def number(d):
    return (5, d, 0, 1)


class Clash(unittest.TestCase):
    def check(self, function, pairs):
        table = [[] for v in range(32)]
        for v, w in pairs:
            table[v].append(w)
            table[w].append(v)
        self.assertEqual(each("clash", made(function), 32), [of(*others) for others in table])

    def test_both_in_in_of_block_0(self):
        self.check([([(0, 2, 0, 1)], ("ret", 2))], [(0, 1)])
        self.check([([], ("branch", 4, 1, 2)), ([], ("ret", 5)), ([], ("ret", 31))], [(4, 5), (4, 31), (5, 31)])

    def test_in_in_of_another_block_is_not_enough(self):
        function = [([(4, 1, 0, 0)], ("jump", 1)), ([(4, 2, 0, 0)], ("jump", 2)), ([(0, 3, 1, 2)], ("ret", 3))]
        self.check(function, [(1, 2)])
        self.check([([(4, 1, 0, 0)], ("jump", 1)), ([(0, 3, 0, 1)], ("ret", 3))], [])

    def test_one_is_given_while_the_other_is_used_later(self):
        self.check([([number(1), number(2), (0, 3, 1, 2)], ("ret", 3))], [(1, 2)])
        self.check([([number(1), (5, 2, 0, 9)], ("ret", 1))], [(1, 2)])

    def test_what_is_given_need_not_be_used(self):
        self.check([([number(9)], ("ret", 0))], [(0, 9)])

    def test_used_for_the_last_time_by_the_step_itself(self):
        self.check([([number(1), (0, 2, 1, 1)], ("ret", 2))], [])
        self.check([([number(1), (1, 1, 1, 1)], ("ret", 1))], [])

    def test_used_later_but_given_before_that(self):
        self.check([([number(1), number(2), number(1), (0, 3, 1, 2)], ("ret", 3))], [(1, 2)])
        self.check([([number(1), number(2)], ("jump", 1)), ([number(1)], ("ret", 1))], [])

    def test_used_by_a_branch_and_by_a_ret_behind_the_step(self):
        self.check([([number(1)], ("branch", 7, 1, 1)), ([], None)], [(1, 7)])
        self.check([([number(1)], ("ret", 7))], [(1, 7)])

    def test_used_on_one_way_of_two(self):
        function = [([number(1), number(2)], ("branch", 2, 1, 2)), ([], ("ret", 1)), ([], ("ret", 2))]
        self.check(function, [(1, 2)])

    def test_used_round_a_loop(self):
        function = [([number(1), number(2)], ("jump", 1)), ([(0, 3, 1, 2), number(4)], ("branch", 4, 1, 2)),
                    ([], ("ret", 3))]
        self.check(function, [(1, 2), (1, 3), (2, 3), (1, 4), (2, 4), (3, 4)])

    def test_a_copy_and_what_it_reads(self):
        self.check([([number(1), (4, 2, 1, 0), (0, 3, 1, 2)], ("ret", 3))], [])
        self.check([([(4, 2, 1, 0), (0, 3, 1, 2)], ("ret", 3))], [])

    def test_a_copy_and_others(self):
        self.check([([number(1), number(5), (4, 2, 1, 0), (0, 3, 1, 2), (0, 3, 3, 5)], ("ret", 3))],
                   [(1, 5), (2, 5), (3, 5)])

    def test_a_copy_does_not_read_its_y(self):
        self.check([([number(1), number(5), (4, 2, 1, 5), (0, 3, 2, 5)], ("ret", 3))], [(1, 5), (2, 5)])

    def test_a_copy_of_itself(self):
        self.check([([number(1), number(2), (4, 1, 1, 0), (0, 3, 1, 2)], ("ret", 3))], [(1, 2)])
        self.check([([(4, 1, 1, 0)], ("ret", 2))], [(1, 2)])

    def test_what_a_copy_reads_clashes_where_another_step_makes_it_so(self):
        self.check([([number(1), (4, 2, 1, 0), number(2), (0, 3, 1, 2)], ("ret", 3))], [(1, 2)])
        self.check([([number(1), (4, 2, 1, 0), number(1), (0, 3, 1, 2)], ("ret", 3))], [(1, 2)])
        self.check([([(0, 2, 1, 2), (4, 2, 1, 0), (0, 3, 1, 2)], ("ret", 3))], [(1, 2)])

    def test_only_a_copy_is_let_off(self):
        for op in [0, 1, 2, 3]:
            self.check([([number(1), (op, 2, 1, 1), (0, 3, 1, 2)], ("ret", 3))], [(1, 2)])
        self.check([([number(1), (5, 2, 1, 1), (0, 3, 1, 2)], ("ret", 3))], [(1, 2)])

    def test_steps_of_blocks_that_are_not_reached(self):
        self.check([([], ("ret", 0)), ([number(1), number(2), (0, 3, 1, 2)], ("ret", 3))], [])
        self.check([([], ("ret", 0)), ([number(1)], ("jump", 0))], [])
        self.check([([], None), ([], ("jump", 2)), ([number(1)], ("ret", 2))], [])

    def test_they_count_once_they_are_reached(self):
        calls = blocks(2) + [("op", 1, 5, 1, 0, 0), ("ret", 1, 2)]
        told = asked_of(calls, [("clash", 1), ("jump", 0, 1), ("clash", 1), ("clash", 2), ("init",), ("clash", 1)])
        self.assertEqual(told, [0, 0, of(2), of(1), 0, 0])

    def test_nothing_behind_a_block_without_an_end_or_a_goal_that_is_not_there(self):
        self.check([([number(1), number(2)], None)], [])
        self.check([([number(1), number(2)], ("jump", 1))], [])

    def test_a_variable_never_clashes_with_itself(self):
        self.check([([(0, 1, 1, 1), (0, 1, 1, 1)], ("branch", 1, 0, 0))], [])
        self.check([([(4, 1, 1, 0)], ("ret", 1))], [])

    def test_all_variables(self):
        steps = [(0, 0, 2 * i, 2 * i + 1) for i in range(16)]
        self.check([(steps, ("ret", 0))], [(v, w) for v in range(32) for w in range(v)])

    def test_of_variables_that_are_not_there(self):
        calls = made([([number(1)], ("branch", 7, 0, 0))])
        for v in [LEAST, -2, -1, 32, 33, 63, MOST]:
            self.assertEqual(asked_of(calls, [("clash", v)]), [0], v)
            self.assertEqual(ask([("clash", v)]), [0], v)

    def test_without_blocks(self):
        self.check([], [])


if __name__ == "__main__":
    unittest.main()

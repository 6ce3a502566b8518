"""Promise 9: registers."""

import unittest

from tests.helper import LEAST, MOST, ask, asked_of, made

NO_CLASH = [1] + [0] * 32
# 0 and 1 clash, as both are in in of block 0.
PAIR = made([([(0, 2, 0, 1)], ("ret", 2))])
ALL = made([([(0, 0, 2 * i, 2 * i + 1) for i in range(16)], ("ret", 0))])


class Registers(unittest.TestCase):
    def check(self, calls, many, places):
        placed = [many] + places + [0] * (32 - len(places))
        for k in range(1, 33):
            self.assertEqual(asked_of(calls, [("registers", k)]), [placed if k >= many else -1], k)

    def test_without_blocks(self):
        self.check([], 1, [])
        self.assertEqual(ask([("registers", 1), ("registers", 32)]), [NO_CLASH, NO_CLASH])

    def test_no_clash(self):
        self.check([("block",)], 1, [])
        self.check(made([([(5, 1, 0, 1)], ("ret", 1))]), 1, [])

    def test_a_pair_that_clashes(self):
        self.check(PAIR, 2, [0, 1])

    def test_all_clash(self):
        self.check(ALL, 32, list(range(32)))
        self.assertEqual(asked_of(ALL, [("registers", 31), ("registers", 32)]), [-1, [32] + list(range(32))])

    def test_a_register_is_given_again(self):
        # 1 clashes with 0 and with 2, these not with each other.
        steps = [(5, 0, 0, 1), (5, 1, 0, 1), (4, 2, 0, 0), (0, 1, 1, 2)]
        self.check(made([(steps, ("ret", 1))]), 2, [0, 1, 0])

    def test_the_last_variables(self):
        self.check(made([([(0, 2, 30, 31)], ("ret", 2))]), 2, [0] * 31 + [1])

    def test_the_least_that_is_free_in_the_order_of_the_variables(self):
        # The clashes are 0 with 2, 2 with 3, 3 with 1: two would do in another order.
        steps = [(5, 0, 0, 1), (5, 2, 0, 1), (0, 3, 0, 2), (4, 1, 2, 0), (0, 1, 1, 3)]
        self.check(made([(steps, ("ret", 1))]), 3, [0, 0, 1, 2])

    def test_a_gap_between_registers_is_filled(self):
        # 3 clashes with 0 and with 2, which have registers 0 and 2; 1 has register 1.
        function = [
            ([], ("branch", 0, 1, 2)),
            ([(0, 4, 0, 1)], ("branch", 2, 2, 2)),
            ([(5, 2, 0, 0), (5, 0, 0, 0), (5, 3, 0, 0), (0, 5, 0, 2)], ("ret", 3))]
        told = asked_of(made(function), [("clash", 3), ("registers", 32)])
        self.assertEqual(told[0] & 7, 5)
        self.assertEqual(told[1][1:5], [0, 1, 2, 1])

    def test_k_that_is_out_of_range(self):
        for calls in [[], PAIR, ALL]:
            for k in [LEAST, -2, -1, 0, 33, 34, 64, MOST]:
                self.assertEqual(asked_of(calls, [("registers", k)]), [-2], k)

    def test_asking_changes_nothing(self):
        told = asked_of(PAIR, [("registers", k) for k in [2, 1, 0, 33, 2]])
        self.assertEqual(told, [[2, 0, 1] + [0] * 30, -1, -2, -2, [2, 0, 1] + [0] * 30])

    def test_after_init(self):
        self.assertEqual(asked_of(ALL, [("init",), ("registers", 1)]), [0, NO_CLASH])


if __name__ == "__main__":
    unittest.main()

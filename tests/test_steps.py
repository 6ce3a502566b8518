"""Promise 2: op, seen through run."""

import ctypes
import unittest

from tests.helper import LEAST, LEAST_LONG, MOST, MOST_LONG, ZEROS, ask, last, variables

EDGES = [
    0, 1, -1, 2, -2, 3, 12345, -98765, 2 ** 31, -(2 ** 31), 2 ** 32, 2 ** 32 + 1, 3037000500, -3037000500,
    2 ** 62, -(2 ** 62), MOST_LONG - 1, MOST_LONG, LEAST_LONG + 1, LEAST_LONG,
]


def value_of(op, x, y, values, d=2):
    return last([("block",), ("op", 0, op, d, x, y), ("ret", 0, d), ("run", 2, values)])


def answer_of(op, d, x, y):
    return last([("block",), ("op", 0, op, d, x, y)])


class WhatAStepDoes(unittest.TestCase):
    def check_all(self, op, meant):
        for a in EDGES:
            for b in EDGES:
                told = value_of(op, 0, 1, variables(v0=a, v1=b))
                self.assertEqual(told, [0, meant(a, b)], (op, a, b))

    def test_0_adds(self):
        self.assertEqual(value_of(0, 0, 1, variables(v0=20, v1=22)), [0, 42])
        self.assertEqual(value_of(0, 0, 1, variables(v0=MOST_LONG, v1=1)), [0, LEAST_LONG])
        self.check_all(0, lambda a, b: ctypes.c_int64(a + b).value)

    def test_1_subtracts(self):
        self.assertEqual(value_of(1, 0, 1, variables(v0=20, v1=22)), [0, -2])
        self.assertEqual(value_of(1, 0, 1, variables(v0=LEAST_LONG, v1=1)), [0, MOST_LONG])
        self.check_all(1, lambda a, b: ctypes.c_int64(a - b).value)

    def test_2_multiplies(self):
        self.assertEqual(value_of(2, 0, 1, variables(v0=-6, v1=7)), [0, -42])
        self.assertEqual(value_of(2, 0, 1, variables(v0=LEAST_LONG, v1=-1)), [0, LEAST_LONG])
        self.assertEqual(value_of(2, 0, 1, variables(v0=2 ** 32, v1=2 ** 32)), [0, 0])
        self.check_all(2, lambda a, b: ctypes.c_int64(a * b).value)

    def test_3_asks_for_less_with_signs(self):
        self.assertEqual(value_of(3, 0, 1, variables(v0=-1, v1=0)), [0, 1])
        self.assertEqual(value_of(3, 0, 1, variables(v0=0, v1=-1)), [0, 0])
        self.assertEqual(value_of(3, 0, 1, variables(v0=5, v1=5)), [0, 0])
        self.assertEqual(value_of(3, 0, 1, variables(v0=LEAST_LONG, v1=MOST_LONG)), [0, 1])
        self.check_all(3, lambda a, b: int(a < b))

    def test_4_copies_whatever_y_is(self):
        for value in EDGES:
            self.assertEqual(value_of(4, 0, 1, variables(v0=value, v1=99)), [0, value])
        for y in [LEAST, -1, 0, 1, 31, 32, 64, MOST]:
            self.assertEqual(answer_of(4, 2, 0, y), 0)
            self.assertEqual(value_of(4, 0, y, variables(v0=8, v1=99)), [0, 8])

    def test_5_gives_the_number_whatever_x_is(self):
        for y in [LEAST, -33, -1, 0, 1, 31, 32, MOST]:
            self.assertEqual(value_of(5, 0, y, ZEROS), [0, y])
        for x in [LEAST, -1, 0, 1, 31, 32, 64, MOST]:
            self.assertEqual(answer_of(5, 2, x, 6), 0)
            self.assertEqual(value_of(5, x, 6, ZEROS), [0, 6])

    def test_answers_are_whole_numbers_not_truths(self):
        told = value_of(3, 0, 1, variables(v0=1, v1=2))
        self.assertEqual([type(number) for number in told], [int, int])

    def test_d_may_be_read_by_its_own_step(self):
        self.assertEqual(value_of(2, 2, 2, variables(v2=9)), [0, 81])

    def test_only_d_changes(self):
        values = list(range(100, 132))
        for v in range(32):
            told = last([("block",), ("op", 0, 0, 7, 3, 4), ("ret", 0, v), ("run", 2, values)])
            self.assertEqual(told, [0, 207 if v == 7 else 100 + v])

    def test_steps_come_at_the_end_of_the_blocks_steps(self):
        calls = [("block",), ("op", 0, 5, 0, 0, 10), ("op", 0, 5, 1, 0, 3), ("op", 0, 1, 0, 0, 1),
                 ("op", 0, 2, 0, 0, 1), ("ret", 0, 0), ("run", 5, ZEROS)]
        self.assertEqual(ask(calls), [0, 0, 0, 0, 0, 0, [0, 21]])

    def test_steps_go_to_their_own_block(self):
        calls = [("block",), ("block",), ("op", 1, 5, 0, 0, 8), ("op", 0, 5, 0, 0, 4), ("ret", 0, 0), ("run", 2, ZEROS)]
        self.assertEqual(last(calls), [0, 4])


class WhatIsRefused(unittest.TestCase):
    def test_another_op(self):
        for op in [LEAST, -2, -1, 6, 7, MOST]:
            self.assertEqual(answer_of(op, 0, 0, 0), -2)

    def test_d_of_every_op(self):
        for op in range(6):
            for d, told in [(0, 0), (31, 0), (-1, -2), (32, -2), (LEAST, -2), (MOST, -2)]:
                self.assertEqual(answer_of(op, d, 0, 0), told, (op, d))

    def test_x_where_it_is_a_variable(self):
        for op in range(5):
            for x, told in [(0, 0), (31, 0), (-1, -2), (32, -2), (LEAST, -2), (MOST, -2)]:
                self.assertEqual(answer_of(op, 0, x, 0), told, (op, x))

    def test_y_where_it_is_a_variable(self):
        for op in range(4):
            for y, told in [(0, 0), (31, 0), (-1, -2), (32, -2), (LEAST, -2), (MOST, -2)]:
                self.assertEqual(answer_of(op, 0, 0, y), told, (op, y))

    def test_the_outermost_variables_are_really_used(self):
        self.assertEqual(value_of(1, 31, 0, variables(v31=50, v0=8), d=31), [0, 42])
        self.assertEqual(value_of(1, 0, 31, variables(v31=50, v0=8), d=0), [0, -42])

    def test_the_16th_and_the_17th_step(self):
        step = ("op", 0, 0, 0, 0, 1)
        self.assertEqual(ask([("block",)] + [step] * 18), [0] * 17 + [-2, -2])
        calls = [("block",)] + [step] * 17 + [("ret", 0, 0)]
        self.assertEqual(last(calls + [("run", 17, variables(v1=1))]), [0, 16])
        self.assertEqual(last(calls + [("run", 16, variables(v1=1))]), -1)

    def test_each_block_has_its_own_16(self):
        steps = [("op", 0, 5, 0, 0, 1)] * 16 + [("op", 1, 5, 0, 0, 1)] * 17
        self.assertEqual(ask([("block",), ("block",)] + steps)[2:], [0] * 32 + [-2])

    def test_refused_steps_do_not_count_towards_the_16(self):
        calls = [("block",)] + [("op", 0, 6, 0, 0, 0)] * 20 + [("op", 0, 5, 0, 0, 1)] * 17
        self.assertEqual(ask(calls)[1:], [-2] * 20 + [0] * 16 + [-2])

    def test_a_block_that_has_its_end(self):
        for end in [("jump", 0, 1), ("branch", 0, 0, 1, 1), ("ret", 0, 0)]:
            calls = [("block",), ("block",), ("op", 0, 5, 0, 0, 4), end, ("op", 0, 5, 0, 0, 5), ("ret", 1, 0)]
            self.assertEqual(ask(calls), [0, 1, 0, 0, -2, 0])
            self.assertEqual(last(calls + [("run", 9, ZEROS)]), [0, 4])

    def test_a_block_that_is_not_there(self):
        for b in [LEAST, -1, 1, 63, 64, MOST]:
            self.assertEqual(last([("block",), ("op", b, 5, 0, 0, 1)]), -2)
        self.assertEqual(last([("op", 0, 5, 0, 0, 1)]), -2)

    def test_a_refused_step_changes_nothing(self):
        refused = [("op", 0, 6, 0, 0, 0), ("op", 0, -1, 0, 0, 0), ("op", 0, 0, 32, 0, 0), ("op", 0, 0, 0, 32, 0),
                   ("op", 0, 0, 0, 0, 32), ("op", 0, 4, 0, -1, 0), ("op", -1, 5, 0, 0, 3), ("op", 1, 5, 0, 0, 3)]
        calls = [("block",)] + refused + [("ret", 0, 0), ("run", 1, variables(v0=77))]
        self.assertEqual(ask(calls), [0] + [-2] * 8 + [0, [0, 77]])


if __name__ == "__main__":
    unittest.main()

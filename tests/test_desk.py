"""The interface: how calls are read from the list and how answers are given back."""

import time
import unittest

from blockflow.desk import answers
from tests.helper import ask

VALUES = list(range(32))
CALLS_AND_ANSWERS = [
    ([1], [0]),
    ([1], [1]),
    ([1], [2]),
    ([1], [3]),
    # v2 = v3 + v4, v5 = 1, to 1.
    ([2, 0, 0, 2, 3, 4], [0]),
    ([2, 0, 5, 5, 0, 1], [0]),
    ([3, 0, 1], [0]),
    # 1 asks for v2, to 2 or 3; 2 takes v5 off v2, back to 1.
    ([4, 1, 2, 2, 3], [0]),
    ([2, 2, 1, 2, 2, 5], [0]),
    ([3, 2, 1], [0]),
    ([5, 3, 6], [0]),
    ([6, 1, 2], [1]),
    ([6, 2, 1], [0]),
    ([7, 3], [1]),
    ([7, 0], [-1]),
    ([8, 2], [2]),
    ([9, 1], [6]),
    ([10, 0], [88]),
    ([11, 0], [100]),
    ([12, 1], [4]),
    ([13, 2], [96]),
    ([14, 3], [3, 0, 0, 0, 0, 1, 1, 2] + [0] * 25),
    ([14, 2], [-1]),
    ([14, 0], [-2]),
    ([15, 26, 32] + VALUES, [0, 6]),
    ([15, 25, 32] + VALUES, [-1]),
    ([0], [0]),
    ([15, 18, 32] + VALUES, [-3]),
    ([14, 1], [1] + [0] * 32),
    ([10, 0], [0]),
    ([7, 0], [-2]),
    ([1], [0]),
    ([10, 0], [0]),
]
EVERY_CALL = [number for call, told in CALLS_AND_ANSWERS for number in call]
EVERY_ANSWER = [number for call, told in CALLS_AND_ANSWERS for number in [len(told)] + told]
# 64 blocks with 64 ends in 128 calls; the ways lead back and forth.
FILL = [("block",)] * 64 + [("branch", b, b % 32, (b + 1) % 64, (b * 7 + 3) % 64) for b in range(64)]


class Desk(unittest.TestCase):
    def test_the_empty_list(self):
        self.assertEqual(answers([]), [])

    def test_how_calls_are_read_and_answered(self):
        self.assertEqual(answers(EVERY_CALL), EVERY_ANSWER)

    def test_single_calls(self):
        self.assertEqual(answers([0]), [1, 0])
        self.assertEqual(answers([1]), [1, 0])
        self.assertEqual(answers([2, 0, 0, 0, 0, 0]), [1, -2])
        self.assertEqual(answers([3, 0, 0]), [1, -2])
        self.assertEqual(answers([4, 0, 0, 0, 0]), [1, -2])
        self.assertEqual(answers([5, 0, 0]), [1, -2])
        self.assertEqual(answers([6, 0, 0]), [1, -2])
        self.assertEqual(answers([7, 0]), [1, -2])
        for call in range(8, 14):
            self.assertEqual(answers([call, 0]), [1, 0])
        self.assertEqual(answers([14, 0]), [1, -2])
        self.assertEqual(answers([14, 1]), [33, 1] + [0] * 32)
        self.assertEqual(answers([15, 0, 32] + VALUES), [1, -3])

    def test_all_sixteen_kinds_are_asked_here(self):
        self.assertEqual({call[0] for call, told in CALLS_AND_ANSWERS}, set(range(16)))

    def test_arguments_stand_in_the_order_that_is_told(self):
        # b, op, d, x, y: v4 = v6 - v9; b, v, yes, no: to 1 as v4 isn't 0.
        calls = [1, 1, 1, 2, 0, 1, 4, 6, 9, 4, 0, 4, 1, 2, 5, 1, 4, 5, 2, 31, 15, 9, 32] + VALUES
        self.assertEqual(answers(calls)[-3:], [2, 0, -3])

    def test_what_is_handed_in_is_the_same_afterwards(self):
        handed = list(EVERY_CALL)
        answers(handed)
        self.assertEqual(handed, EVERY_CALL)

    def test_what_is_handed_in_is_not_changed_for_a_while_either(self):
        class Watched(list):
            def refuse(self, *given, **named):
                raise AssertionError("what was handed in is changed")

            append = extend = insert = pop = remove = clear = sort = reverse = refuse
            __setitem__ = __delitem__ = __iadd__ = __imul__ = refuse

        self.assertEqual(answers(Watched(EVERY_CALL)), EVERY_ANSWER)

    def test_the_same_list_asked_twice_is_answered_alike(self):
        self.assertEqual(answers(EVERY_CALL), EVERY_ANSWER)
        self.assertEqual(answers(EVERY_CALL), EVERY_ANSWER)

    def test_nothing_is_kept_from_one_time_to_the_next(self):
        answers([1, 1, 3, 0, 1])
        self.assertEqual(answers([6, 0, 0, 1, 5, 0, 0]), [1, -2, 1, 0, 1, 0])

    def test_each_answer_is_a_new_list(self):
        first = answers(EVERY_CALL)
        first.append(99)
        self.assertEqual(answers(EVERY_CALL), EVERY_ANSWER)
        empty = answers([])
        empty.append(99)
        self.assertEqual(answers([]), [])

    def test_answers_are_whole_numbers_in_a_list(self):
        told = answers(EVERY_CALL)
        self.assertIs(type(told), list)
        self.assertEqual({type(number) for number in told}, {int})

    def test_a_list_that_ends_behind_any_call(self):
        calls = []
        told = []
        for call, answer in CALLS_AND_ANSWERS:
            calls += call
            told += [len(answer)] + answer
            self.assertEqual(answers(calls), told)

    def test_the_longest_lists(self):
        told = ask(FILL + [("idom", 63)] * 272)
        self.assertEqual(len(told), 400)
        self.assertEqual(len(set(told[128:])), 1)
        runs = [1, 5, 0, 3] + ([15, 2500, 32] + VALUES) * 398
        self.assertEqual(answers(runs), [1, 0, 1, 0] + [2, 0, 3] * 398)

    def test_400_calls_over_64_blocks_take_a_short_time(self):
        for name in ["over", "idom", "front", "loop", "in_of", "out", "meet", "clash", "registers"]:
            asked = [(name, 1, 2) if name == "over" else (name, 1 + turn % 32) for turn in range(272)]
            begun = time.perf_counter()
            told = ask(FILL + asked)
            self.assertLess(time.perf_counter() - begun, 10, name)
            self.assertEqual(len(told), 400)


if __name__ == "__main__":
    unittest.main()

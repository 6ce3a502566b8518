"""The interface: how calls are read from the list and how answers are given back."""

import unittest

from blockflow.desk import answers
from tests.helper import ask

VALUES = list(range(32))
EVERY_CALL = [
    1, 1, 1,
    2, 0, 0, 2, 3, 4,
    3, 0, 1,
    4, 1, 2, 2, 0,
    5, 2, 2,
    6, 0, 2,
    7, 2,
    15, 9, 32] + VALUES + [
    15, 3, 32] + VALUES + [
    0,
    15, 9, 32] + VALUES + [
    7, 0,
    1]
EVERY_ANSWER = [1, 0, 1, 1, 1, 2, 1, 0, 1, 0, 1, 0, 1, 0, 1, 1, 1, 1, 2, 0, 7, 1, -1, 1, 0, 1, -3, 1, -2, 1, 0]


class Desk(unittest.TestCase):
    def test_the_empty_list(self):
        self.assertEqual(answers([]), [])

    def test_how_calls_are_read_and_answered(self):
        self.assertEqual(answers(EVERY_CALL), EVERY_ANSWER)

    def test_single_calls(self):
        self.assertEqual(answers([0]), [1, 0])
        self.assertEqual(answers([1]), [1, 0])
        self.assertEqual(answers([2, 0, 0, 0, 0, 0]), [1, -2])
        self.assertEqual(answers([3, 0, 0]), [1, -2])
        self.assertEqual(answers([4, 0, 0, 0, 0]), [1, -2])
        self.assertEqual(answers([5, 0, 0]), [1, -2])
        self.assertEqual(answers([6, 0, 0]), [1, -2])
        self.assertEqual(answers([7, 0]), [1, -2])
        self.assertEqual(answers([15, 0, 32] + VALUES), [1, -3])

    def test_arguments_stand_in_the_order_that_is_told(self):
        # b, op, d, x, y: v4 = v6 - v9; b, v, yes, no: to 1 as v4 isn't 0.
        calls = [1, 1, 1, 2, 0, 1, 4, 6, 9, 4, 0, 4, 1, 2, 5, 1, 4, 5, 2, 31, 15, 9, 32] + VALUES
        self.assertEqual(answers(calls)[-3:], [2, 0, -3])

    def test_what_is_handed_in_is_the_same_afterwards(self):
        handed = list(EVERY_CALL)
        answers(handed)
        self.assertEqual(handed, EVERY_CALL)

    def test_what_is_handed_in_is_not_changed_for_a_while_either(self):
        class Watched(list):
            def refuse(self, *given, **named):
                raise AssertionError("what was handed in is changed")

            append = extend = insert = pop = remove = clear = sort = reverse = refuse
            __setitem__ = __delitem__ = __iadd__ = __imul__ = refuse

        self.assertEqual(answers(Watched(EVERY_CALL)), EVERY_ANSWER)

    def test_the_same_list_asked_twice_is_answered_alike(self):
        self.assertEqual(answers(EVERY_CALL), EVERY_ANSWER)
        self.assertEqual(answers(EVERY_CALL), EVERY_ANSWER)

    def test_nothing_is_kept_from_one_time_to_the_next(self):
        answers([1, 1, 3, 0, 1])
        self.assertEqual(answers([6, 0, 0, 1, 5, 0, 0]), [1, -2, 1, 0, 1, 0])

    def test_each_answer_is_a_new_list(self):
        first = answers(EVERY_CALL)
        first.append(99)
        self.assertEqual(answers(EVERY_CALL), EVERY_ANSWER)
        empty = answers([])
        empty.append(99)
        self.assertEqual(answers([]), [])

    def test_answers_are_whole_numbers_in_a_list(self):
        told = answers(EVERY_CALL)
        self.assertIs(type(told), list)
        self.assertEqual({type(number) for number in told}, {int})

    def test_the_longest_lists(self):
        fill = [("block",)] * 64 + [("branch", b, 0, (b + 1) % 64, (b * 7 + 3) % 64) for b in range(64)]
        told = ask(fill + [("idom", 63)] * 272)
        self.assertEqual(len(told), 400)
        self.assertEqual(len(set(told[128:])), 1)
        runs = [1, 5, 0, 3] + ([15, 2500, 32] + VALUES) * 398
        self.assertEqual(answers(runs), [1, 0, 1, 0] + [2, 0, 3] * 398)


if __name__ == "__main__":
    unittest.main()

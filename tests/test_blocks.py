"""Promise 1: init and block."""

import unittest

from tests.helper import ZEROS, ask, blocks, last


class Init(unittest.TestCase):
    def test_at_the_beginning(self):
        self.assertEqual(ask([("init",), ("block",)]), [0, 0])

    def test_there_are_no_blocks_at_the_beginning_without_it(self):
        self.assertEqual(ask([("idom", 0), ("run", 9, ZEROS)]), [-2, -3])

    def test_amid_other_calls_there_are_no_blocks_again(self):
        calls = [("block",), ("block",), ("op", 0, 5, 1, 0, 7), ("ret", 0, 1), ("init",)]
        self.assertEqual(ask(calls)[-1], 0)
        self.assertEqual(last(calls + [("idom", 0)]), -2)
        self.assertEqual(last(calls + [("over", 0, 0)]), -2)
        self.assertEqual(last(calls + [("ret", 0, 1)]), -2)
        self.assertEqual(last(calls + [("op", 0, 5, 1, 0, 7)]), -2)
        self.assertEqual(last(calls + [("run", 9, ZEROS)]), -3)

    def test_blocks_are_numbered_from_0_again_and_are_new(self):
        calls = [("block",), ("block",), ("op", 0, 5, 1, 0, 7), ("ret", 0, 1), ("init",), ("block",), ("block",)]
        self.assertEqual(ask(calls)[-2:], [0, 1])
        self.assertEqual(ask(calls + [("ret", 0, 1), ("run", 1, ZEROS)])[-2:], [0, [0, 0]])

    def test_twice(self):
        self.assertEqual(ask([("init",), ("init",), ("block",), ("init",), ("init",), ("block",)]), [0, 0, 0, 0, 0, 0])

    def test_when_full(self):
        told = ask(blocks(65) + [("init",)] + blocks(65))
        self.assertEqual(told, list(range(64)) + [-2, 0] + list(range(64)) + [-2])


class MakingBlocks(unittest.TestCase):
    def test_numbers_from_0_on(self):
        self.assertEqual(ask(blocks(5)), [0, 1, 2, 3, 4])

    def test_the_64th_and_the_65th(self):
        self.assertEqual(ask(blocks(64)), list(range(64)))
        self.assertEqual(ask(blocks(66))[62:], [62, 63, -2, -2])

    def test_a_65th_changes_nothing(self):
        calls = blocks(64) + [("jump", 0, 63), ("block",), ("op", 63, 5, 3, 0, 9), ("ret", 63, 3), ("run", 9, ZEROS)]
        self.assertEqual(ask(calls)[-4:], [-2, 0, 0, [0, 9]])
        self.assertEqual(last(blocks(65) + [("idom", 64)]), -2)

    def test_a_new_block_has_no_steps_and_no_end(self):
        self.assertEqual(last([("block",), ("run", 0, ZEROS)]), -3)
        self.assertEqual(last([("block",), ("ret", 0, 0), ("run", 1, ZEROS)]), [0, 0])

    def test_blocks_may_come_between_other_calls(self):
        calls = [("block",), ("op", 0, 5, 0, 0, 1), ("block",), ("jump", 0, 1), ("block",), ("ret", 1, 0), ("block",)]
        self.assertEqual(ask(calls), [0, 0, 1, 0, 2, 0, 3])


if __name__ == "__main__":
    unittest.main()

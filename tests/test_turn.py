"""Promise 3: gb_turn."""

import unittest

from bitgasdesk.board import answers
from tests.plainboard import TURN, WORK, ahead_of, now_of, seen, start_call, started, step, told, work_all


class TurnTest(unittest.TestCase):
    def test_not_until_all_rows_are_done(self):
        for height in (3, 4, 256):
            calls = start_call(1, height) + TURN + (WORK + TURN) * height + TURN
            self.assertEqual(answers(calls), told(0, -11, *[1, -11] * (height - 1), 1, 0, -11))

    def test_all_but_one_done(self):
        calls = start_call(8, 5) + WORK * 4 + TURN + WORK + TURN
        self.assertEqual(answers(calls), told(0, 1, 1, 1, 1, -11, 1, 0))

    def test_a_refusal_changes_nothing(self):
        board = started(1, 4, 5, None, {((1, 1), 3), ((30, 2), 1)})
        step(board)
        for _ in range(4):
            before = seen(board)
            self.assertEqual(board.gb_turn(), -11)
            self.assertEqual(seen(board), before)
            board.gb_work()

    def test_the_sweep_is_one_more_and_all_wait(self):
        board = started(1, 4, 5, None, {((1, 1), 3), ((30, 2), 1)})
        for sweep in range(5):
            self.assertEqual(board.sweep, sweep)
            work_all(board)
            now, ahead, push = now_of(board), ahead_of(board), tuple(board.push)
            self.assertEqual(board.gb_turn(), 0)
            self.assertEqual(board.sweep, sweep + 1)
            self.assertEqual(list(board.states), [0, 0, 0, 0])
            self.assertEqual((now_of(board), ahead_of(board), tuple(board.push)), (ahead, now, push))


class LastSweepTest(unittest.TestCase):
    def at_sweep(self, sweep):
        # So many turns can't be made by calls, so the board is set there.
        board = started(1, 4, 5, None, {((1, 1), 3), ((30, 2), 1)})
        board.sweep = sweep
        return board

    def test_refused_at_the_last_sweep(self):
        board = self.at_sweep(2 ** 40)
        work_all(board)
        before = seen(board)
        self.assertEqual(board.gb_turn(), -28)
        self.assertEqual(seen(board), before)

    def test_rows_that_wait_are_named_first(self):
        board = self.at_sweep(2 ** 40)
        self.assertEqual(board.gb_turn(), -11)
        board.gb_work()
        self.assertEqual(board.gb_turn(), -11)

    def test_one_sweep_before(self):
        board = self.at_sweep(2 ** 40 - 1)
        work_all(board)
        self.assertEqual(board.gb_turn(), 0)
        self.assertEqual(board.sweep, 2 ** 40)
        self.assertEqual(board.gb_back(), 0)
        self.assertEqual(board.sweep, 2 ** 40 - 1)

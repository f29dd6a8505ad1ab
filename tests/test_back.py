"""Promise 4: gb_back."""

import random
import unittest

from bitgasdesk.board import answers
from tests.plainboard import (
    BACK, KEYS, TURN, WORK, ahead_of, both_started, edge, now_of, random_flying, random_walls, seen, start_call,
    started, step, told, work_all,
)


class RefusedTest(unittest.TestCase):
    def test_at_the_beginning(self):
        self.assertEqual(answers(start_call(1, 3) + BACK * 2), told(0, -2, -2))

    def test_with_some_row_done(self):
        calls = start_call(1, 3) + WORK * 3 + TURN + (WORK + BACK) * 3
        self.assertEqual(answers(calls), told(0, 1, 1, 1, 0, 1, -11, 1, -11, 1, -11))

    def test_some_row_done_is_named_ahead_of_the_beginning(self):
        calls = start_call(1, 3) + BACK + (WORK + BACK) * 3
        self.assertEqual(answers(calls), told(0, -2, 1, -11, 1, -11, 1, -11))

    def test_back_to_the_beginning_and_no_further(self):
        calls = start_call(1, 3) + (WORK * 3 + TURN) * 2 + BACK * 3 + WORK * 3 + TURN + BACK * 2
        expected = told(0, 1, 1, 1, 0, 1, 1, 1, 0, 0, 0, -2, 1, 1, 1, 0, 0, -2)
        self.assertEqual(answers(calls), expected)

    def test_a_refusal_changes_nothing(self):
        board = started(1, 4, 5, None, {((1, 1), 3), ((30, 2), 1)})
        before = seen(board)
        self.assertEqual(board.gb_back(), -2)
        self.assertEqual(seen(board), before)
        for sweep in range(3):
            while board.gb_work() == 1:
                before = seen(board)
                self.assertEqual(board.gb_back(), -11)
                self.assertEqual(seen(board), before)
            board.gb_turn()


class TakenBackTest(unittest.TestCase):
    def boards(self):
        source = random.Random(5)
        for words, height in ((1, 3), (1, 7), (2, 5), (3, 4), (8, 4)):
            for share in (0.05, 0.3, 0.6):
                walls = random_walls(source, words, height, 0.1)
                yield words, height, source.getrandbits(64), walls, random_flying(source, words, height, walls, share)
        for key in KEYS:
            yield 1, 6, key, edge(1, 6), random_flying(source, 1, 6, edge(1, 6), 0.35)

    def test_one_step(self):
        for numbers in self.boards():
            board = started(*numbers)
            for sweep in range(4):
                now, push = now_of(board), tuple(board.push)
                step(board)
                was_now = now_of(board)
                self.assertEqual(board.gb_back(), 0)
                self.assertEqual(seen(board), (sweep, push, [0] * board.height, now, was_now))
                step(board)
                self.assertEqual(now_of(board), was_now)

    def test_all_steps_to_the_beginning_and_on_again(self):
        for numbers in self.boards():
            board = started(*numbers)
            past = [(now_of(board), tuple(board.push))]
            for _ in range(7):
                step(board)
                past.append((now_of(board), tuple(board.push)))
            for sweep in range(6, -1, -1):
                self.assertEqual(board.gb_back(), 0)
                self.assertEqual(board.sweep, sweep)
                self.assertEqual((now_of(board), tuple(board.push)), past[sweep])
                self.assertEqual(ahead_of(board), past[sweep + 1][0])
            self.assertEqual(board.gb_back(), -2)
            for sweep in range(1, 8):
                step(board)
                self.assertEqual((now_of(board), tuple(board.push)), past[sweep])

    def test_calls_in_any_order_as_the_plain_board(self):
        source = random.Random(6)
        for numbers in self.boards():
            board, plain = both_started(*numbers)
            for _ in range(40):
                what = source.choice(("work", "all", "turn", "back", "step"))
                if what == "work":
                    self.assertEqual(board.gb_work(), plain.work())
                if what in ("all", "step"):
                    work_all(board)
                    while plain.work() == 1:
                        pass
                if what in ("turn", "step"):
                    self.assertEqual(board.gb_turn(), plain.turn())
                if what == "back":
                    self.assertEqual(board.gb_back(), plain.back())
                self.assertEqual(seen(board), plain.seen())

    def test_the_largest_board(self):
        source = random.Random(7)
        walls = random_walls(source, 8, 256, 0.05)
        flying = random_flying(source, 8, 256, walls, 0.3)
        board = started(8, 256, source.getrandbits(64), walls, flying)
        for _ in range(3):
            step(board)
        for _ in range(3):
            self.assertEqual(board.gb_back(), 0)
        self.assertEqual((now_of(board), tuple(board.push)), (flying, (0, 0)))

    def test_push_below_0_is_taken_back(self):
        board = started(1, 3, 0, None, {((1, 1), 3)})
        step(board)
        step(board)
        self.assertEqual(tuple(board.push), (-2, 0))
        self.assertEqual(board.gb_back(), 0)
        self.assertEqual(tuple(board.push), (0, 0))
        self.assertEqual(now_of(board), {((0, 1), 3)})
        self.assertEqual(ahead_of(board), {((1, 1), 0)})
        step(board)
        self.assertEqual(tuple(board.push), (-2, 0))

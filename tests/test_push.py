"""Promise 6: gb_push."""

import random
import unittest

from bitgasdesk.board import answers
from tests.plainboard import (
    BACK, PUSH, TURN, WORK, answered, both_do, both_random, edge, empty_start_call, neighbour, start_call, started,
    step, step_calls, told, whole,
)

# One that is at the wall (0, 1) after one step, so that push is (-2, 0) when row 1 is done then.
LEFTWARD = {((1, 1), 3)}


class BeginningTest(unittest.TestCase):
    def test_0_and_0(self):
        for words, height in ((1, 3), (2, 5), (8, 256)):
            self.assertEqual(answers(start_call(words, height) + PUSH), told(0, (0, 0)))
            calls = start_call(words, height, 0, None, {((1, 1), d) for d in range(6)}) + PUSH
            self.assertEqual(answers(calls), told(0, (0, 0)))

    def test_0_and_0_after_a_new_start(self):
        calls = start_call(1, 3, 0, None, LEFTWARD) + step_calls(3) * 2 + PUSH
        calls += start_call(1, 3, 0, None, LEFTWARD) + PUSH + step_calls(3) + PUSH + step_calls(3) + PUSH
        sweep = [1, 1, 1, 0]
        expected = [0] + sweep * 2 + [(-2, 0), 0, (0, 0)] + sweep + [(0, 0)] + sweep + [(-2, 0)]
        self.assertEqual(answers(calls), told(*expected))

    def test_as_it_was_after_a_start_that_is_refused(self):
        refused = [empty_start_call(0, 3), empty_start_call(1, 257), start_call(1, 3, 0, edge(1, 3) - {(0, 0)}),
                   start_call(1, 3, 0, None, {((0, 0), 0)})]
        for bad in refused:
            calls = start_call(1, 3, 0, None, LEFTWARD) + step_calls(3) * 2 + bad + PUSH + WORK + PUSH
            self.assertEqual(answered(calls)[9:], [-22, (-2, 0), 1, (-2, 0)])


class RowsTest(unittest.TestCase):
    def test_after_each_row(self):
        # Those in a corner: (1, 0) gets (-1, 1) with row 0, and (0, 1) gets (-1, 0) with row 1, each twice.
        calls = start_call(1, 4, 0, None, {((1, 1), 2), ((1, 1), 3)}) + PUSH + (WORK + PUSH) * 4 + TURN + PUSH
        calls += (WORK + PUSH) * 4 + TURN + PUSH
        expected = [0, (0, 0)] + [1, (0, 0)] * 4 + [0, (0, 0)]
        expected += [1, (-2, 2), 1, (-4, 2), 1, (-4, 2), 1, (-4, 2), 0, (-4, 2)]
        self.assertEqual(answers(calls), told(*expected))

    def test_each_direction(self):
        wall = (63, 4)
        for d, push in ((0, (2, 0)), (1, (0, 2)), (2, (-2, 2)), (3, (-2, 0)), (4, (0, -2)), (5, (2, -2))):
            calls = start_call(2, 9, 0, edge(2, 9) | {wall}, {(neighbour(wall, (d + 3) % 6), d)})
            calls += step_calls(9) + PUSH + WORK * 4 + PUSH + WORK + PUSH + WORK * 5 + PUSH
            given = answered(calls)
            self.assertEqual([answer for answer in given if isinstance(answer, tuple)], [(0, 0), (0, 0), push, push])

    def test_a_call_that_does_no_row_adds_nothing(self):
        calls = start_call(1, 3, 0, None, LEFTWARD) + step_calls(3) + WORK * 3 + PUSH + WORK + PUSH + TURN + PUSH
        self.assertEqual(answered(calls)[8:], [(-2, 0), 0, (-2, 0), 0, (-2, 0)])

    def test_further_below_0_and_up_again(self):
        calls = start_call(1, 3, 0, edge(1, 3) | {(3, 1)}, {((1, 1), 3), ((2, 1), 3)}) + (step_calls(3) + PUSH) * 8
        given = answered(calls)[5::5]
        self.assertEqual(given, [(0, 0), (-2, 0), (-4, 0), (-4, 0), (-2, 0), (0, 0), (0, 0), (-2, 0)])

    def test_many_at_once(self):
        # A full row of them at the upper edge: from row 1 direction 1 leads to (x + 1, 0), direction 2 to (x, 0).
        flying = {((x, 1), d) for x in range(1, 511) for d in (1, 2)}
        calls = start_call(8, 4, 0, None, flying) + step_calls(4) + WORK + PUSH
        self.assertEqual(answered(calls)[-1], (-1020, 2040))

    def test_what_tells_it_changes_nothing(self):
        board = started(1, 4, 7, None, LEFTWARD)
        step(board)
        for _ in range(5):
            before = whole(board)
            board.gb_push()
            self.assertEqual(whole(board), before)
            board.gb_work()


class TakenBackTest(unittest.TestCase):
    def test_by_hand(self):
        calls = start_call(1, 3, 0, None, LEFTWARD) + step_calls(3) * 2 + PUSH
        calls += (BACK + PUSH) * 3 + step_calls(3) * 2 + PUSH
        given = answered(calls)
        self.assertEqual(given[9:16], [(-2, 0), 0, (0, 0), 0, (0, 0), -2, (0, 0)])
        self.assertEqual(given[-1], (-2, 0))

    def test_refused_with_a_row_done(self):
        calls = start_call(1, 3, 0, None, LEFTWARD) + step_calls(3) + WORK * 2 + BACK + PUSH
        self.assertEqual(answered(calls)[7:], [-11, (-2, 0)])

    def test_as_the_plain_board(self):
        source = random.Random(18)
        for words, height in ((1, 3), (1, 6), (2, 5), (8, 4)):
            board, plain = both_random(source, words, height)
            for what in (["work"] * height + ["turn"]) * 4 + ["back"] * 5 + (["work"] * height + ["turn"]) * 2:
                both_do(self, board, plain, what)
                self.assertEqual(tuple(board.gb_push()), plain.push)

"""The interface: bitgasdesk.board.answers(calls)."""

import contextlib
import io
import unittest

import bitgasdesk.board
from tests.plainboard import (
    BACK, FULL, PUSH, TURN, WORK, cell_call, edge, empty_start_call, start_call, sum_call, told, whole_sum_call,
)


class Untouched(list):
    """A list that is not to be changed, not for a while either."""

    def refuse(self, *args):
        raise RuntimeError("what is handed in is changed")

    __setitem__ = __delitem__ = __iadd__ = __imul__ = refuse
    append = extend = insert = pop = remove = clear = sort = reverse = refuse


def some_calls():
    flying = {((5, 1), 0), ((9, 1), 3), ((62, 2), 0), ((64, 2), 3), ((2, 2), 2)}
    first = start_call(2, 4, 0x9E3779B97F4A7C15, edge(2, 4) | {(63, 2)}, flying)
    second = start_call(1, 3, FULL, None, {((7, 1), 5)})
    middle = (WORK * 5 + TURN) * 3 + PUSH + BACK * 4 + cell_call(62, 2) + WORK + BACK + TURN
    last = WORK * 4 + TURN + whole_sum_call(1, 3) + BACK * 2 + sum_call(1, 0, 0, 3) + cell_call(0, 3) + cell_call(7, 1)
    return first + middle + empty_start_call(0, 3) + second + last


class AnswersTest(unittest.TestCase):
    def test_of_each_call_how_many_the_form_and_the_answer(self):
        self.assertEqual(bitgasdesk.board.answers(start_call(1, 3)), [2, 0, 0])
        self.assertEqual(bitgasdesk.board.answers(empty_start_call(9, 3)), [2, 0, -22])
        calls = start_call(1, 3) + TURN + BACK + WORK + BACK
        self.assertEqual(bitgasdesk.board.answers(calls), [2, 0, 0, 2, 0, -11, 2, 0, -2, 2, 0, 1, 2, 0, -11])

    def test_a_longer_line(self):
        sweep = [1, 1, 1, 1, 0, 0]
        # At the wall (63, 2) two meet that come from either side; (2, 2) in direction 2 leads to (1, 1), then (1, 0).
        middle = [(-2, 2), 0, 0, 0, -2, 1, 1, -11, -11]
        last = [-22, 0, 1, 1, 1, 0, 0, (1, 1, -1), 0, -2, -22, -22, 32]
        expected = [0] + sweep * 3 + middle + last
        self.assertEqual(bitgasdesk.board.answers(some_calls()), told(*expected))

    def test_a_number_has_the_form_0(self):
        calls = start_call(1, 3, 0, None, {((5, 1), 0), ((5, 1), 3)})
        calls += cell_call(5, 1) + cell_call(0, 1) + cell_call(64, 1)
        self.assertEqual(bitgasdesk.board.answers(calls), [2, 0, 0, 2, 0, 9, 2, 0, 64, 2, 0, -22])

    def test_several_numbers_have_the_form_1_and_their_count(self):
        calls = start_call(1, 3, 0, None, {((1, 1), 3)}) + sum_call(0, 0, 64, 3) + PUSH
        self.assertEqual(bitgasdesk.board.answers(calls), [2, 0, 0, 5, 1, 3, 1, -1, 0, 4, 1, 2, 0, 0])
        calls = start_call(1, 3, 0, None, {((1, 1), 3)}) + WORK * 3 + TURN + WORK * 2 + PUSH
        self.assertEqual(bitgasdesk.board.answers(calls)[-5:], [4, 1, 2, -2, 0])

    def test_a_sum_that_is_refused_has_the_form_0(self):
        calls = start_call(1, 3) + sum_call(1, 0, 0, 3) + sum_call(0, 0, 0, 0)
        self.assertEqual(bitgasdesk.board.answers(calls), [2, 0, 0, 2, 0, -22, 5, 1, 3, 0, 0, 0])

    def test_whole_numbers_in_a_list(self):
        given = bitgasdesk.board.answers(some_calls())
        self.assertIs(type(given), list)
        self.assertEqual({type(number) for number in given}, {int})

    def test_the_list_is_not_changed(self):
        calls = some_calls()
        kept = list(calls)
        bitgasdesk.board.answers(calls)
        self.assertEqual(calls, kept)

    def test_the_list_is_not_changed_for_a_while_either(self):
        self.assertEqual(bitgasdesk.board.answers(Untouched(some_calls())), bitgasdesk.board.answers(some_calls()))

    def test_nothing_is_kept(self):
        calls = some_calls()
        once = bitgasdesk.board.answers(calls)
        self.assertEqual(bitgasdesk.board.answers(calls), once)
        bitgasdesk.board.answers(start_call(8, 3) + WORK * 2)
        self.assertEqual(bitgasdesk.board.answers(calls), once)

    def test_what_is_given_back_is_new_each_time(self):
        calls = some_calls()
        once = bitgasdesk.board.answers(calls)
        kept = list(once)
        once.append(7)
        once[0] = 9
        self.assertEqual(bitgasdesk.board.answers(calls), kept)

    def test_prints_nothing(self):
        out, err = io.StringIO(), io.StringIO()
        with contextlib.redirect_stdout(out), contextlib.redirect_stderr(err):
            bitgasdesk.board.answers(some_calls())
        self.assertEqual((out.getvalue(), err.getvalue()), ("", ""))

    def test_as_many_calls_as_there_may_be(self):
        calls = start_call(1, 3) + (WORK * 3 + TURN) * 749 + BACK * 3
        self.assertEqual(bitgasdesk.board.answers(calls), told(0, *[1, 1, 1, 0] * 749, 0, 0, 0))

    def test_3000_calls_of_each_kind(self):
        # 1, 3, 5 and 1 numbers long, and numbers within them that are calls' own: each is to be taken as it stands.
        group = cell_call(5, 1) + sum_call(4, 0, 6, 3) + PUSH + cell_call(0, 6) + WORK + BACK
        calls = start_call(1, 3, 0, None, {((5, 1), 0)}) + group * 499 + PUSH * 5
        expected = [0]
        for n in range(499):
            expected += [1, (1, 1, 0), (0, 0), -22, 1 if n < 3 else 0, -11]
        self.assertEqual(bitgasdesk.board.answers(calls), told(*expected, *[(0, 0)] * 5))

    def test_the_longest_list(self):
        flying = {((x, y), d) for x in range(1, 511) for y in range(1, 255) for d in (0, 3)}
        calls = start_call(8, 256, FULL, None, flying) + (WORK * 256 + TURN + BACK) * 6
        self.assertLessEqual(len(calls), 16000)
        self.assertEqual(bitgasdesk.board.answers(calls), told(0, *([1] * 256 + [0, 0]) * 6))

    def test_a_call_that_is_none(self):
        with self.assertRaises(bitgasdesk.board.UnknownCall):
            bitgasdesk.board.answers(start_call(1, 3) + [7])

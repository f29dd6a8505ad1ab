"""Promise 6: gb_sum."""

import random
import unittest

from bitgasdesk.board import answers, ones
from tests.plainboard import (
    BACK, LARGEST, MOVES, TURN, WORK, answered, both_do, both_random, edge, neighbour, start_call, started, step,
    step_calls, sum_call, told, whole, whole_sum_call,
)

NONE = (0, 0, 0)
SIZES = ((1, 3), (1, 4), (2, 5), (3, 4), (8, 3))


def full_inside(words, height, directions):
    return {((x, y), d) for x in range(1, 64 * words - 1) for y in range(1, height - 1) for d in directions}


class RefusedTest(unittest.TestCase):
    def check(self, words, height, rectangle, expected):
        with self.subTest(words=words, height=height, rectangle=rectangle):
            calls = start_call(words, height) + sum_call(*rectangle)
            self.assertEqual(answers(calls), told(0, expected))

    def test_x0_above_x1(self):
        for words, height in SIZES:
            wide = 64 * words
            self.check(words, height, (1, 0, 0, height), -22)
            self.check(words, height, (wide, 0, wide - 1, height), -22)
            self.check(words, height, (64, 1, 63, 2), -22)
            self.check(words, height, (wide + 1, 0, wide, height), -22)
            self.check(words, height, (LARGEST, 0, wide, height), -22)
            self.check(words, height, (63, 1, 64, 2), NONE)

    def test_x1_above_the_width(self):
        for words, height in SIZES:
            wide = 64 * words
            self.check(words, height, (0, 0, wide, height), NONE)
            self.check(words, height, (0, 0, wide + 1, height), -22)
            self.check(words, height, (wide, 0, wide + 1, height), -22)
            self.check(words, height, (wide + 1, 0, wide + 1, height), -22)
            self.check(words, height, (0, 0, LARGEST, height), -22)
            self.check(words, height, (LARGEST, 1, LARGEST, 1), -22)

    def test_y0_above_y1(self):
        for words, height in SIZES:
            wide = 64 * words
            self.check(words, height, (0, 1, wide, 0), -22)
            self.check(words, height, (0, height, wide, height - 1), -22)
            self.check(words, height, (0, height + 1, wide, height), -22)
            self.check(words, height, (0, LARGEST, wide, height), -22)
            self.check(words, height, (3, 2, 3, 1), -22)
            self.check(words, height, (0, 1, wide, 2), NONE)

    def test_y1_above_the_height(self):
        for words, height in SIZES:
            wide = 64 * words
            self.check(words, height, (0, 0, wide, height + 1), -22)
            self.check(words, height, (0, height, wide, height + 1), -22)
            self.check(words, height, (0, height + 1, wide, height + 1), -22)
            self.check(words, height, (0, 0, wide, LARGEST), -22)
            self.check(words, height, (0, LARGEST, 0, LARGEST), -22)

    def test_all_at_once(self):
        self.check(2, 4, (LARGEST, LARGEST, 129, 5), -22)

    def test_nothing_is_changed(self):
        board = started(2, 5, 99, edge(2, 5) | {(9, 2)}, {((8, 2), 0), ((63, 3), 1), ((64, 1), 3)})
        step(board)
        refused = ((1, 0, 0, 5), (0, 0, 129, 5), (0, 1, 128, 0), (0, 0, 128, 6))
        for _ in range(6):
            before = whole(board)
            for rectangle in refused + ((0, 0, 128, 5), (9, 1, 9, 1)):
                board.gb_sum(*rectangle)
            self.assertEqual(whole(board), before)
            board.gb_work()


class NoPlaceTest(unittest.TestCase):
    def test_x0_equal_to_x1(self):
        for words, height in SIZES:
            board = started(words, height, 0, None, full_inside(words, height, range(5)))
            for x in (0, 1, 30, 63, 64 * words - 1, 64 * words):
                self.assertEqual(board.gb_sum(x, 0, x, height), NONE)

    def test_y0_equal_to_y1(self):
        for words, height in SIZES:
            board = started(words, height, 0, None, full_inside(words, height, range(5)))
            for y in range(height + 1):
                self.assertEqual(board.gb_sum(0, y, 64 * words, y), NONE)

    def test_both(self):
        calls = start_call(2, 4, 0, None, full_inside(2, 4, [0]))
        calls += sum_call(0, 0, 0, 0) + sum_call(128, 4, 128, 4) + sum_call(64, 2, 64, 2)
        self.assertEqual(answers(calls), told(0, NONE, NONE, NONE))


class OnePlaceTest(unittest.TestCase):
    def test_each_direction(self):
        for d, (right, down) in enumerate(((1, 0), (0, 1), (-1, 1), (-1, 0), (0, -1), (1, -1))):
            for x, y in ((1, 1), (30, 2), (63, 2), (64, 2), (63, 3), (64, 3), (126, 4)):
                calls = start_call(2, 6, 0, None, {((x, y), d)}) + sum_call(x, y, x + 1, y + 1)
                self.assertEqual(answers(calls), told(0, (1, right, down)))

    def test_what_flies_beside_it_is_left_out(self):
        for place in ((30, 2), (63, 2), (64, 2), (63, 3), (64, 3)):
            x, y = place
            around = {((x + i, y + j), 2) for i in (-1, 0, 1) for j in (-1, 0, 1)} - {(place, 2)}
            board = started(2, 6, 0, None, around | {(place, 0), (place, 1)})
            self.assertEqual(board.gb_sum(x, y, x + 1, y + 1), (2, 1, 1))

    def test_all_numbers_of_a_place(self):
        for number in range(64):
            directions = [d for d in range(6) if number >> d & 1]
            board = started(1, 4, 0, None, {((20, 2), d) for d in directions})
            expected = (len(directions), sum(MOVES[d][0] for d in directions), sum(MOVES[d][1] for d in directions))
            self.assertEqual(board.gb_sum(20, 2, 21, 3), expected)
            self.assertEqual(board.gb_sum(0, 0, 64, 4), expected)


class RectangleTest(unittest.TestCase):
    def test_the_whole_board_by_hand(self):
        flying = {((5, 1), 2), ((63, 1), 2), ((64, 2), 3), ((126, 3), 4), ((1, 3), 4)}
        # Twice (-1, 1), once (-1, 0), twice (0, -1).
        calls = start_call(2, 5, 0, None, flying) + sum_call(0, 0, 128, 5)
        self.assertEqual(answers(calls), told(0, (5, -3, 0)))

    def test_below_0(self):
        calls = start_call(1, 4, 0, None, full_inside(1, 4, [3])) + whole_sum_call(1, 4)
        self.assertEqual(answers(calls), told(0, (124, -124, 0)))
        calls = start_call(1, 4, 0, None, full_inside(1, 4, [4])) + whole_sum_call(1, 4)
        self.assertEqual(answers(calls), told(0, (124, 0, -124)))
        calls = start_call(1, 4, 0, None, full_inside(1, 4, [3, 4])) + whole_sum_call(1, 4)
        self.assertEqual(answers(calls), told(0, (248, -124, -124)))

    def test_within_a_word_over_a_border_and_over_several_words(self):
        calls = start_call(8, 5, 0, None, full_inside(8, 5, [0, 1]))
        calls += sum_call(10, 1, 20, 3) + sum_call(70, 2, 127, 4)
        calls += sum_call(60, 1, 70, 3) + sum_call(63, 2, 65, 3) + sum_call(64, 2, 128, 3)
        calls += sum_call(100, 1, 400, 4) + sum_call(1, 1, 511, 4) + sum_call(0, 0, 512, 5)
        many = [20, 114, 20, 2, 64, 900, 1530, 1530]
        self.assertEqual(answers(calls), told(0, *[(2 * n, n, n) for n in many]))

    def test_each_side_is_where_it_is(self):
        # One in each row and one in each column at a place of its own, so that each side counts one more or less.
        board = started(2, 9, 0, None, {((60 + y, y), 0) for y in range(1, 8)})
        for x0 in range(59, 69):
            for x1 in range(x0, 70):
                for y0, y1 in ((0, 9), (1, 8), (2, 7), (3, 3), (3, 4)):
                    many = len([y for y in range(1, 8) if y0 <= y < y1 and x0 <= 60 + y < x1])
                    self.assertEqual(board.gb_sum(x0, y0, x1, y1), (many, many, 0))

    def test_rows_of_odd_and_of_even_numbers(self):
        # A row of an odd number lies further right, but its places count by their numbers.
        flying = {((40, y), 0) for y in range(1, 6)} | {((39, y), 1) for y in range(1, 6)}
        board = started(1, 7, 0, None, flying)
        for y in range(1, 6):
            self.assertEqual(board.gb_sum(40, y, 41, y + 1), (1, 1, 0))
            self.assertEqual(board.gb_sum(39, y, 40, y + 1), (1, 0, 1))
        self.assertEqual(board.gb_sum(40, 0, 64, 7), (5, 5, 0))
        self.assertEqual(board.gb_sum(0, 0, 40, 7), (5, 0, 5))

    def test_the_largest_board_full(self):
        calls = start_call(8, 256, 0, None, full_inside(8, 256, range(6))) + whole_sum_call(8, 256)
        self.assertEqual(answers(calls), told(0, (777240, 0, 0)))
        calls = start_call(8, 256, 0, None, full_inside(8, 256, [2])) + whole_sum_call(8, 256)
        self.assertEqual(answers(calls), told(0, (129540, -129540, 129540)))

    def test_as_many_whole_sums_as_a_list_holds(self):
        start = start_call(8, 256, 0, None, full_inside(8, 256, range(6)))
        many = (16000 - len(start)) // 5
        self.assertEqual(answers(start + whole_sum_call(8, 256) * many), told(0, *[(777240, 0, 0)] * many))

    def test_any_rectangle(self):
        source = random.Random(15)
        for words, height in SIZES + ((1, 9), (8, 6)):
            board, plain = both_random(source, words, height)
            for _ in range(150):
                x0, x1 = sorted(source.randrange(64 * words + 1) for _ in range(2))
                y0, y1 = sorted(source.randrange(height + 1) for _ in range(2))
                self.assertEqual(board.gb_sum(x0, y0, x1, y1), plain.sums(x0, y0, x1, y1))


class WallTest(unittest.TestCase):
    def test_what_flies_at_a_wall_counts_too(self):
        for wall in ((30, 2), (63, 3), (64, 2)):
            x, y = wall
            flying = {(neighbour(wall, (d + 3) % 6), d) for d in (0, 1, 5)}
            ask = sum_call(x, y, x + 1, y + 1) + whole_sum_call(2, 6)
            calls = start_call(2, 6, 0, edge(2, 6) | {wall}, flying) + ask
            calls += step_calls(6) + ask + step_calls(6) + ask
            given = answered(calls)
            # (1, 0), (0, 1) and (1, -1) come, and go the other way.
            self.assertEqual(given[1:3], [NONE, (3, 2, 0)])
            self.assertEqual(given[10:12], [(3, 2, 0), (3, 2, 0)])
            self.assertEqual(given[19:], [NONE, (3, -2, 0)])

    def test_at_the_edge(self):
        calls = start_call(1, 3, 0, None, {((1, 1), 3)}) + step_calls(3)
        calls += sum_call(0, 1, 1, 2) + sum_call(1, 1, 2, 2) + whole_sum_call(1, 3)
        self.assertEqual(answered(calls)[5:], [(1, -1, 0), NONE, (1, -1, 0)])

    def test_walls_with_none_count_nothing(self):
        everywhere = {(x, y) for x in range(128) for y in range(4)}
        calls = start_call(2, 4, 0, everywhere) + whole_sum_call(2, 4)
        self.assertEqual(answers(calls), told(0, NONE))


class NowTest(unittest.TestCase):
    def test_while_rows_are_done_and_turned_and_taken_back(self):
        ask = sum_call(5, 1, 6, 2) + sum_call(6, 1, 7, 2)
        calls = start_call(1, 3, 0, None, {((5, 1), 0)}) + ask
        calls += (WORK + ask) * 3 + TURN + ask + BACK + ask + (WORK + ask) * 3 + TURN + ask
        one = (1, 1, 0)
        first, later = [one, NONE], [NONE, one]
        expected = [0] + first + ([1] + first) * 3 + [0] + later + [0] + first + ([1] + first) * 3 + [0] + later
        self.assertEqual(answers(calls), told(*expected))

    def test_as_the_plain_board_at_each_moment(self):
        source = random.Random(16)
        for words, height in ((1, 4), (2, 5), (8, 3)):
            board, plain = both_random(source, words, height)
            wide = 64 * words
            rectangles = [(0, 0, wide, height), (0, 1, 32, 2), (31, 0, wide - 3, 2), (5, 2, wide, height)]
            for what in (["work"] * height + ["turn"]) * 3 + ["back"] * 3 + ["work"]:
                both_do(self, board, plain, what)
                for rectangle in rectangles:
                    self.assertEqual(board.gb_sum(*rectangle), plain.sums(*rectangle))


class OnesTest(unittest.TestCase):
    def test_of_each_width(self):
        source = random.Random(17)
        for words in range(1, 9):
            full = 2 ** (64 * words) - 1
            self.assertEqual((ones(0, full), ones(full, full)), (0, 64 * words))
            for x in range(64 * words):
                self.assertEqual((ones(1 << x, full), ones(full ^ (1 << x), full)), (1, 64 * words - 1))
            for _ in range(50):
                row = source.getrandbits(64 * words)
                self.assertEqual(ones(row, full), bin(row).count("1"))

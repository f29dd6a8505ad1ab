"""Promise 1: gb_start."""

import random
import unittest

from bitgasdesk.board import Board, answers
from tests.plainboard import (
    BACK, FULL, TURN, WORK, edge, empty_start_call, flying_in, now_of, random_flying, random_walls, start_call,
    start_numbers, started, step, told, whole, words_of,
)


class SizesTest(unittest.TestCase):
    def test_words_at_the_edges(self):
        self.assertEqual(answers(empty_start_call(0, 3)), told(-22))
        self.assertEqual(answers(start_call(1, 3)), told(0))
        self.assertEqual(answers(start_call(8, 3)), told(0))
        self.assertEqual(answers(empty_start_call(9, 3)), told(-22))

    def test_height_at_the_edges(self):
        for words in (1, 8):
            self.assertEqual(answers(empty_start_call(words, 2)), told(-22))
            self.assertEqual(answers(start_call(words, 3)), told(0))
            self.assertEqual(answers(start_call(words, 256)), told(0))
            self.assertEqual(answers(empty_start_call(words, 257)), told(-22))

    def test_every_size_between(self):
        for words in range(1, 9):
            for height in (3, 4, 5, 64, 255):
                self.assertEqual(answers(start_call(words, height)), told(0))

    def test_far_beyond(self):
        for words, height in ((0, 0), (4294967295, 3), (1, 4294967295), (4294967295, 4294967295), (1, 0), (1, 1),
                              (0, 256), (9, 257), (64, 64)):
            self.assertEqual(answers(empty_start_call(words, height)), told(-22))


class EdgeTest(unittest.TestCase):
    def check_each_edge_place(self, words, height):
        walls = edge(words, height)
        for place in sorted(walls):
            with self.subTest(words=words, height=height, place=place):
                self.assertEqual(answers(start_call(words, height, 0, walls - {place})), told(-22))

    def test_each_place_of_the_four_edges(self):
        self.check_each_edge_place(1, 3)
        self.check_each_edge_place(1, 6)
        self.check_each_edge_place(2, 4)
        self.check_each_edge_place(8, 3)

    def test_places_of_each_edge_of_the_largest_board(self):
        walls = edge(8, 256)
        for place in ((0, 0), (511, 0), (0, 255), (511, 255), (200, 0), (200, 255), (0, 100), (511, 100)):
            with self.subTest(place=place):
                self.assertEqual(answers(start_call(8, 256, 0, walls - {place})), told(-22))

    def test_no_wall_at_all(self):
        self.assertEqual(answers(start_call(1, 3, 0, set())), told(-22))

    def test_walls_within_the_board_are_free(self):
        everywhere = {(x, y) for x in range(128) for y in range(5)}
        self.assertEqual(answers(start_call(2, 5, 0, everywhere)), told(0))
        self.assertEqual(answers(start_call(2, 5, 0, edge(2, 5) | {(63, 2), (64, 2)})), told(0))


class FliesAtWallTest(unittest.TestCase):
    def test_each_direction_at_each_kind_of_wall(self):
        for words, height in ((1, 3), (2, 5), (8, 4)):
            last = (64 * words - 1, height - 1)
            single = (30, 1)
            walls = edge(words, height) | {single}
            corners = ((0, 0), last, (0, last[1]), (last[0], 0))
            for place in corners + ((0, 1), (last[0], 1), (17, 0), (17, last[1]), single):
                for d in range(6):
                    with self.subTest(words=words, place=place, d=d):
                        self.assertEqual(answers(start_call(words, height, 0, walls, {(place, d)})), told(-22))

    def test_the_same_beside_the_wall_is_answered_0(self):
        walls = edge(2, 5) | {(30, 2)}
        for place in ((29, 2), (31, 2), (30, 1), (30, 3), (1, 1), (126, 3), (63, 2), (64, 2)):
            for d in range(6):
                self.assertEqual(answers(start_call(2, 5, 0, walls, {(place, d)})), told(0))

    def test_all_places_without_walls_full(self):
        inner = {((x, y), d) for x in range(1, 127) for y in range(1, 4) for d in range(6)}
        self.assertEqual(answers(start_call(2, 5, FULL, None, inner)), told(0))


class BoardIsSoTest(unittest.TestCase):
    def test_what_a_new_board_has(self):
        source = random.Random(1)
        for words, height, key in ((1, 3, 0), (2, 5, FULL), (3, 4, 2 ** 63), (8, 6, 12345678901234567890)):
            walls = random_walls(source, words, height, 0.1)
            flying = random_flying(source, words, height, walls, 0.3)
            board = started(words, height, key, walls, flying)
            self.assertEqual((board.sweep, board.words, board.height, board.key), (0, words, height, key))
            self.assertEqual(tuple(board.push), (0, 0))
            self.assertEqual(list(board.states), [0] * height)
            self.assertEqual(flying_in([[row, 0, 0, 0, 0, 0] for row in board.walls]), {(p, 0) for p in walls})
            self.assertEqual(now_of(board), flying)
            self.assertEqual(flying_in(board.gas[1]), set())

    def test_the_order_of_words_rows_and_directions(self):
        wall = words_of(edge(2, 3), 2, 3)
        for d in range(6):
            for word in range(2):
                for bit in (1, 33, 62):
                    gas = [0] * 36
                    gas[d * 6 + 2 + word] = 1 << bit
                    board = Board()
                    self.assertEqual(board.gb_start(2, 3, 0, wall, gas), 0)
                    self.assertEqual(now_of(board), {((64 * word + bit, 1), d)})


class AgainTest(unittest.TestCase):
    refused = [
        (0, 3, 0, [], []),
        (9, 3, 0, [], []),
        (1, 2, 0, [], []),
        (1, 257, 0, [], []),
        start_numbers(2, 4, 7, edge(2, 4) - {(0, 2)}, set()),
        start_numbers(2, 4, 7, edge(2, 4), {((0, 2), 4)}),
    ]

    def test_a_refused_start_changes_nothing(self):
        flying = {((5, 1), 0), ((20, 2), 3), ((63, 1), 5), ((2, 1), 3)}
        for rows in range(5):
            board = started(2, 4, 99, None, flying)
            step(board)
            step(board)
            for _ in range(rows):
                board.gb_work()
            before = whole(board)
            for numbers in self.refused:
                self.assertEqual(board.gb_start(*numbers), -22)
                self.assertEqual(whole(board), before)

    def test_a_refused_start_changes_nothing_told_in_calls(self):
        first = start_call(1, 3) + WORK * 3
        for bad in (empty_start_call(0, 3), start_call(1, 3, 0, edge(1, 3) - {(0, 0)}),
                    start_call(1, 3, 0, None, {((0, 0), 0)})):
            self.assertEqual(answers(first + bad + WORK + TURN + BACK), told(0, 1, 1, 1, -22, 0, 0, 0))

    def test_a_refused_start_may_come_first(self):
        calls = empty_start_call(0, 0) + start_call(1, 3, 0, set()) + start_call(1, 3) + WORK
        self.assertEqual(answers(calls), told(-22, -22, 0, 1))

    def test_a_start_again_makes_all_new(self):
        board = started(2, 4, 99, None, {((2, 1), 3), ((63, 2), 0), ((1, 1), 3)})
        for _ in range(3):
            step(board)
        board.gb_work()
        self.assertNotEqual(tuple(board.push), (0, 0))
        walls = edge(1, 5) | {(9, 2)}
        flying = {((8, 2), 0), ((4, 3), 1)}
        self.assertEqual(board.gb_start(*start_numbers(1, 5, 3, walls, flying)), 0)
        self.assertEqual(whole(board), whole(started(1, 5, 3, walls, flying)))

    def test_a_start_again_told_in_calls(self):
        calls = start_call(1, 3) + WORK * 3 + TURN + WORK + start_call(2, 4) + BACK + TURN + WORK * 5 + TURN
        self.assertEqual(answers(calls), told(0, 1, 1, 1, 0, 1, 0, -2, -11, 1, 1, 1, 1, 0, 0))

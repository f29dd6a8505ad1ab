"""Promise 5: gb_cell."""

import random
import unittest

from bitgasdesk.board import answers
from tests.plainboard import (
    BACK, FULL, LARGEST, TURN, WORK, answered, both_do, both_random, cell_call, cell_calls, edge, neighbour, start_call,
    started, step, step_calls, told, whole,
)

PLACES = ((30, 2), (30, 3), (62, 2), (63, 2), (64, 2), (65, 2), (62, 3), (63, 3), (64, 3), (65, 3))


def check_every_place(case, board, plain):
    for y in range(plain.height):
        for x in range(64 * plain.words):
            case.assertEqual(board.gb_cell(x, y), plain.cell(x, y))


class OffTheBoardTest(unittest.TestCase):
    def test_x_at_its_edge(self):
        for words in (1, 2, 8):
            for y in (0, 1, 2):
                calls = start_call(words, 3)
                for x in (0, 64 * words - 1, 64 * words, 64 * words + 1, LARGEST):
                    calls += cell_call(x, y)
                self.assertEqual(answers(calls), told(0, 64, 64, -22, -22, -22))

    def test_y_at_its_edge(self):
        for words, height in ((1, 3), (1, 4), (2, 5), (8, 256)):
            for x in (0, 64 * words - 1):
                calls = start_call(words, height)
                for y in (0, height - 1, height, height + 1, LARGEST):
                    calls += cell_call(x, y)
                self.assertEqual(answers(calls), told(0, 64, 64, -22, -22, -22))

    def test_both(self):
        calls = start_call(2, 4)
        for x, y in ((128, 4), (LARGEST, LARGEST), (4, 128), (127, 3), (3, 127)):
            calls += cell_call(x, y)
        self.assertEqual(answers(calls), told(0, -22, -22, -22, 64, -22))

    def test_the_board_that_was_started_last(self):
        ask = cell_call(127, 1) + cell_call(5, 4)
        calls = start_call(1, 5) + ask + start_call(2, 3) + ask + start_call(1, 3) + ask
        self.assertEqual(answers(calls), told(0, -22, 64, 0, 64, -22, 0, -22, -22))

    def test_nothing_is_changed(self):
        board = started(2, 5, 99, edge(2, 5) | {(9, 2)}, {((8, 2), 0), ((63, 3), 1), ((64, 1), 3)})
        step(board)
        for _ in range(6):
            before = whole(board)
            for x, y in ((128, 0), (0, 5), (LARGEST, LARGEST), (9, 2), (64, 3), (0, 0)):
                board.gb_cell(x, y)
            self.assertEqual(whole(board), before)
            board.gb_work()


class WhatIsThereTest(unittest.TestCase):
    def test_each_direction(self):
        for words in (2, 8):
            for place in PLACES:
                for d in range(6):
                    with self.subTest(words=words, place=place, d=d):
                        board = started(words, 6, 0, None, {(place, d)})
                        self.assertEqual(board.gb_cell(*place), [1, 2, 4, 8, 16, 32][d])
                        for e in range(6):
                            self.assertIn(board.gb_cell(*neighbour(place, e)), (0, 64))

    def test_several_together(self):
        for place in PLACES:
            for number in range(64):
                directions = [d for d in range(6) if number >> d & 1]
                board = started(2, 6, 0, None, {(place, d) for d in directions})
                self.assertEqual(board.gb_cell(*place), number)

    def test_first_and_last_places_that_are_free(self):
        for words in (1, 8):
            last = 64 * words - 2
            for place in ((1, 1), (last, 1), (1, 3), (last, 3)):
                calls = start_call(words, 5, 0, None, {(place, 1), (place, 5)})
                for x, y in ((1, 1), (last, 1), (1, 3), (last, 3)):
                    calls += cell_call(x, y)
                expected = [34 if p == place else 0 for p in ((1, 1), (last, 1), (1, 3), (last, 3))]
                self.assertEqual(answers(calls), told(0, *expected))

    def test_by_hand(self):
        flying = {((63, 1), 0), ((63, 1), 5), ((64, 1), 3), ((64, 2), 4), ((100, 2), 2)}
        calls = start_call(2, 4, 0, edge(2, 4) | {(63, 2)}, flying)
        for x, y in ((63, 1), (64, 1), (62, 1), (65, 1), (63, 2), (64, 2), (100, 2), (100, 1), (0, 2), (127, 3)):
            calls += cell_call(x, y)
        self.assertEqual(answers(calls), told(0, 33, 8, 0, 0, 64, 16, 4, 0, 64, 64))

    def test_every_place_of_several_boards(self):
        source = random.Random(12)
        for words, height in ((1, 3), (1, 6), (2, 5), (8, 4), (8, 256)):
            check_every_place(self, *both_random(source, words, height))


class WallTest(unittest.TestCase):
    def test_with_none_there(self):
        for words, height in ((1, 3), (2, 4), (8, 3)):
            walls = edge(words, height) | {(31, 1), (32, 1)}
            given = answered(start_call(words, height, FULL, walls) + cell_calls(words, range(height)))[1:]
            expected = [64 * ((x, y) in walls) for y in range(height) for x in range(64 * words)]
            self.assertEqual(given, expected)

    def test_with_one_there_after_a_step(self):
        for wall in PLACES:
            for d in range(6):
                with self.subTest(wall=wall, d=d):
                    source = neighbour(wall, (d + 3) % 6)
                    calls = start_call(2, 6, 0, edge(2, 6) | {wall}, {(source, d)})
                    calls += cell_call(*wall) + step_calls(6) + cell_call(*wall) + cell_call(*source)
                    calls += step_calls(6) + cell_call(*wall) + cell_call(*source)
                    given = answered(calls)
                    self.assertEqual(given[1], 64)
                    self.assertEqual(given[9:11], [64 + (1 << d), 0])
                    self.assertEqual(given[18:], [64, 1 << (d + 3) % 6])

    def test_with_several_there(self):
        wall = (63, 3)
        for number in range(64):
            flying = {(neighbour(wall, (d + 3) % 6), d) for d in range(6) if number >> d & 1}
            calls = start_call(2, 6, 0, edge(2, 6) | {wall}, flying) + step_calls(6) + cell_call(*wall)
            self.assertEqual(answered(calls)[-1], 64 + number)

    def test_at_the_edge(self):
        # From (1, 1) direction 3 leads to the wall at (0, 1), direction 2 to the one at (1, 0).
        calls = start_call(1, 4, 0, None, {((1, 1), 2), ((1, 1), 3)}) + step_calls(4)
        calls += cell_call(0, 1) + cell_call(1, 0) + cell_call(0, 0) + cell_call(1, 1)
        self.assertEqual(answered(calls)[6:], [72, 68, 64, 0])


class NowTest(unittest.TestCase):
    def test_while_rows_are_done_and_turned_and_taken_back(self):
        ask = cell_call(5, 1) + cell_call(6, 1)
        calls = start_call(1, 3, 0, None, {((5, 1), 0)}) + ask
        calls += (WORK + ask) * 3 + TURN + ask + BACK + ask + (WORK + ask) * 3 + TURN + ask
        first, later = [1, 0], [0, 1]
        expected = [0] + first + ([1] + first) * 3 + [0] + later + [0] + first + ([1] + first) * 3 + [0] + later
        self.assertEqual(answers(calls), told(*expected))

    def test_as_the_plain_board_at_each_moment(self):
        source = random.Random(14)
        for words, height in ((1, 4), (2, 5), (8, 3)):
            board, plain = both_random(source, words, height)
            for what in (["work"] * height + ["turn"]) * 3 + ["back"] * 3:
                both_do(self, board, plain, what)
                check_every_place(self, board, plain)

"""What holds, a to d, on boards of several steps."""

import random
import unittest

from tests.plainboard import KEYS, edge, now_of, random_flying, random_walls, started, step, together


def boards():
    source = random.Random(8)
    for words, height in ((1, 3), (1, 9), (2, 6), (8, 5)):
        for share in (0.1, 0.4, 0.8):
            walls = random_walls(source, words, height, 0.15)
            flying = random_flying(source, words, height, walls, share)
            yield words, height, source.choice(KEYS), walls, flying


class NothingIsLostTest(unittest.TestCase):
    def test_as_many_as_at_first_at_each_moment(self):
        for numbers in boards():
            board = started(*numbers)
            many = len(numbers[4])
            for _ in range(8):
                while board.gb_work() == 1:
                    self.assertEqual(len(now_of(board)), many)
                self.assertEqual(board.gb_turn(), 0)
                self.assertEqual(len(now_of(board)), many)
            for _ in range(8):
                self.assertEqual(board.gb_back(), 0)
                self.assertEqual(len(now_of(board)), many)

    def check_movement(self, board, at_first):
        moved = together(now_of(board))
        self.assertEqual((moved[0] + board.push[0], moved[1] + board.push[1]), at_first)

    def test_how_all_move_and_push_are_together_the_same(self):
        for numbers in boards():
            board = started(*numbers)
            at_first = together(numbers[4])
            for _ in range(12):
                self.check_movement(board, at_first)
                step(board)
            for _ in range(12):
                self.check_movement(board, at_first)
                board.gb_back()
            self.check_movement(board, at_first)


class SweepAloneTest(unittest.TestCase):
    def test_what_flies_is_the_same_whenever_the_sweep_is(self):
        source = random.Random(9)
        for numbers in boards():
            straight = started(*numbers)
            at_sweep = [now_of(straight)]
            for _ in range(5):
                step(straight)
                at_sweep.append(now_of(straight))
            board = started(*numbers)
            for _ in range(120):
                what = source.choice((board.gb_work, board.gb_work, board.gb_work, board.gb_turn, board.gb_back))
                if what == board.gb_turn and board.sweep == 5:
                    continue
                what()
                self.assertEqual(now_of(board), at_sweep[board.sweep])


class TakenBackTest(unittest.TestCase):
    def test_it_is_as_it_was_to_the_last_one(self):
        for numbers in boards():
            board = started(*numbers)
            for _ in range(15):
                step(board)
            for _ in range(15):
                self.assertEqual(board.gb_back(), 0)
            self.assertEqual((now_of(board), tuple(board.push), board.sweep), (numbers[4], (0, 0), 0))


class NoSoonerTest(unittest.TestCase):
    def differing(self, one, other):
        return {place for place, _ in now_of(one) ^ now_of(other)}

    def check(self, one, other, place, steps):
        for n in range(steps + 1):
            for x, y in self.differing(one, other):
                self.assertLessEqual(abs(x - place[0]), n)
                self.assertLessEqual(abs(y - place[1]), n)
            step(one)
            step(other)

    def test_another_one_at_a_place(self):
        source = random.Random(10)
        for words, height, place in ((1, 15, (30, 7)), (2, 12, (63, 6)), (2, 12, (64, 5)), (8, 9, (256, 4))):
            walls = random_walls(source, words, height, 0.05) - {place}
            flying = random_flying(source, words, height, walls, 0.3)
            key = source.getrandbits(64)
            for d in range(6):
                one = started(words, height, key, walls, flying)
                other = started(words, height, key, walls, flying ^ {(place, d)})
                self.check(one, other, place, 6)

    def test_another_wall(self):
        source = random.Random(11)
        for place in ((63, 6), (64, 5), (40, 7)):
            walls = random_walls(source, 2, 13, 0.05) - {place}
            flying = {(p, d) for p, d in random_flying(source, 2, 13, walls, 0.3) if p != place}
            one = started(2, 13, 77, walls, flying)
            other = started(2, 13, 77, walls | {place}, flying)
            self.check(one, other, place, 6)

    def test_as_soon_as_it_can_fly(self):
        one = started(2, 15, 0, edge(2, 15))
        other = started(2, 15, 0, edge(2, 15), {((60, 7), 0)})
        for n in range(6):
            self.assertEqual(self.differing(one, other), {(60 + n, 7)})
            step(one)
            step(other)

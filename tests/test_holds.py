"""What holds, a to d, on boards of several steps: by what the board has, and by what the calls tell."""

import random
import unittest

from tests.plainboard import (
    BACK, KEYS, PUSH, WORK, answered, cell_calls, edge, now_of, random_flying, random_walls, start_call, started, step,
    step_calls, together, whole_sum_call,
)


def boards():
    source = random.Random(8)
    for words, height in ((1, 3), (1, 9), (2, 6), (8, 5)):
        for share in (0.1, 0.4, 0.8):
            walls = random_walls(source, words, height, 0.15)
            flying = random_flying(source, words, height, walls, share)
            yield words, height, source.choice(KEYS), walls, flying


class NothingIsLostTest(unittest.TestCase):
    def test_as_many_as_at_first_at_each_moment(self):
        for numbers in boards():
            board = started(*numbers)
            many = len(numbers[4])
            for _ in range(8):
                while board.gb_work() == 1:
                    self.assertEqual(len(now_of(board)), many)
                self.assertEqual(board.gb_turn(), 0)
                self.assertEqual(len(now_of(board)), many)
            for _ in range(8):
                self.assertEqual(board.gb_back(), 0)
                self.assertEqual(len(now_of(board)), many)

    def check_movement(self, board, at_first):
        moved = together(now_of(board))
        self.assertEqual((moved[0] + board.push[0], moved[1] + board.push[1]), at_first)

    def test_how_all_move_and_push_are_together_the_same(self):
        for numbers in boards():
            board = started(*numbers)
            at_first = together(numbers[4])
            for _ in range(12):
                self.check_movement(board, at_first)
                step(board)
            for _ in range(12):
                self.check_movement(board, at_first)
                board.gb_back()
            self.check_movement(board, at_first)


class SweepAloneTest(unittest.TestCase):
    def test_what_flies_is_the_same_whenever_the_sweep_is(self):
        source = random.Random(9)
        for numbers in boards():
            straight = started(*numbers)
            at_sweep = [now_of(straight)]
            for _ in range(5):
                step(straight)
                at_sweep.append(now_of(straight))
            board = started(*numbers)
            for _ in range(120):
                what = source.choice((board.gb_work, board.gb_work, board.gb_work, board.gb_turn, board.gb_back))
                if what == board.gb_turn and board.sweep == 5:
                    continue
                what()
                self.assertEqual(now_of(board), at_sweep[board.sweep])


class TakenBackTest(unittest.TestCase):
    def test_it_is_as_it_was_to_the_last_one(self):
        for numbers in boards():
            board = started(*numbers)
            for _ in range(15):
                step(board)
            for _ in range(15):
                self.assertEqual(board.gb_back(), 0)
            self.assertEqual((now_of(board), tuple(board.push), board.sweep), (numbers[4], (0, 0), 0))


class NoSoonerTest(unittest.TestCase):
    def differing(self, one, other):
        return {place for place, _ in now_of(one) ^ now_of(other)}

    def check(self, one, other, place, steps):
        for n in range(steps + 1):
            for x, y in self.differing(one, other):
                self.assertLessEqual(abs(x - place[0]), n)
                self.assertLessEqual(abs(y - place[1]), n)
            step(one)
            step(other)

    def test_another_one_at_a_place(self):
        source = random.Random(10)
        for words, height, place in ((1, 15, (30, 7)), (2, 12, (63, 6)), (2, 12, (64, 5)), (8, 9, (256, 4))):
            walls = random_walls(source, words, height, 0.05) - {place}
            flying = random_flying(source, words, height, walls, 0.3)
            key = source.getrandbits(64)
            for d in range(6):
                one = started(words, height, key, walls, flying)
                other = started(words, height, key, walls, flying ^ {(place, d)})
                self.check(one, other, place, 6)

    def test_another_wall(self):
        source = random.Random(11)
        for place in ((63, 6), (64, 5), (40, 7)):
            walls = random_walls(source, 2, 13, 0.05) - {place}
            flying = {(p, d) for p, d in random_flying(source, 2, 13, walls, 0.3) if p != place}
            one = started(2, 13, 77, walls, flying)
            other = started(2, 13, 77, walls | {place}, flying)
            self.check(one, other, place, 6)

    def test_as_soon_as_it_can_fly(self):
        one = started(2, 15, 0, edge(2, 15))
        other = started(2, 15, 0, edge(2, 15), {((60, 7), 0)})
        for n in range(6):
            self.assertEqual(self.differing(one, other), {(60 + n, 7)})
            step(one)
            step(other)


class ToldByCallsTest(unittest.TestCase):
    """The same, by gb_cell, gb_sum and gb_push alone."""

    def totals(self, numbers, calls_between):
        """gb_sum of the whole board and gb_push, at first and after each of these calls."""
        words, height = numbers[:2]
        ask = whole_sum_call(words, height) + PUSH
        calls = start_call(*numbers) + ask
        for call in calls_between:
            calls += [call] + ask
        given = answered(calls)
        return list(zip(given[1::3], given[2::3]))

    def row_moments(self, numbers, calls_between, y):
        """gb_cell of every place of a row at first and after each of these rows of calls; and gb_push then."""
        words = numbers[0]
        ask = PUSH + cell_calls(words, [y])
        many = 1 + 64 * words
        calls = start_call(*numbers) + ask
        at = [1]
        for row in calls_between:
            calls += row + ask
            at.append(at[-1] + many + len(row))
        given = answered(calls)
        return [given[k + 1:k + many] for k in at], [given[k] for k in at]

    def moments(self, numbers, calls_between):
        """gb_cell of every place at first and after each of these rows of calls; and gb_push then."""
        cells = [[] for _ in range(len(calls_between) + 1)]
        # Row by row, as no list of calls is long enough for all.
        for y in range(numbers[1]):
            of_row, pushes = self.row_moments(numbers, calls_between, y)
            for there, more in zip(cells, of_row):
                there += more
        return cells, pushes

    def test_as_many_as_at_first_at_each_moment(self):
        for numbers in boards():
            height = numbers[1]
            told = self.totals(numbers, step_calls(height) * 6 + BACK * 7 + WORK * 2 + BACK)
            self.assertEqual({many for (many, _, _), _ in told}, {len(numbers[4])})

    def test_how_all_move_and_push_are_together_the_same(self):
        for numbers in boards():
            height = numbers[1]
            told = self.totals(numbers, step_calls(height) * 8 + BACK * 9)
            at_turns = told[:(height + 1) * 8:height + 1] + told[(height + 1) * 8:]
            self.assertEqual(len(at_turns), 18)
            for (_, first, second), push in at_turns:
                self.assertEqual((first + push[0], second + push[1]), together(numbers[4]))

    def test_push_is_not_idle(self):
        # So that the test above is no test of zeros.
        for numbers in boards():
            told = self.totals(numbers, step_calls(numbers[1]) * 8)
            self.assertGreater(len({push for _, push in told}), 1)

    def small_boards(self):
        source = random.Random(19)
        for words, height, share in ((1, 3, 0.4), (1, 5, 0.2), (2, 4, 0.3)):
            walls = random_walls(source, words, height, 0.1)
            flying = random_flying(source, words, height, walls, share)
            yield words, height, source.getrandbits(64), walls, flying

    def test_taken_back_to_the_beginning_and_on_again(self):
        for numbers in self.small_boards():
            on = step_calls(numbers[1])
            for told in self.moments(numbers, [on] * 4 + [BACK] * 5 + [on] * 4):
                self.assertEqual(told[4:10], told[4::-1] + told[:1])
                self.assertEqual(told[9:], told[:5])
                self.assertNotEqual(told[0], told[4])

    def test_what_flies_hangs_on_the_sweep_alone(self):
        for numbers in self.small_boards():
            on = step_calls(numbers[1])
            straight = self.moments(numbers, [on] * 3)[0]
            ways = [on, BACK, on, on, WORK, WORK + BACK, on, BACK + BACK, on]
            sweeps = [0, 1, 0, 1, 2, 2, 2, 3, 1, 2]
            # A sweep that some rows are done of already has some gb_work too many, which do nothing.
            self.assertEqual(self.moments(numbers, ways)[0], [straight[sweep] for sweep in sweeps])

    def test_no_sooner_than_it_can_fly(self):
        source = random.Random(20)
        words, height = 2, 9
        for place in ((63, 4), (64, 5), (30, 4)):
            walls = random_walls(source, words, height, 0.05) - {place}
            flying = random_flying(source, words, height, walls, 0.3)
            on = step_calls(height)
            for d in (0, 1, 5):
                one = self.moments((words, height, 7, walls, flying), [on] * 4)[0]
                other = self.moments((words, height, 7, walls, flying ^ {(place, d)}), [on] * 4)[0]
                self.check_near(one, other, place, 64 * words)

    def check_near(self, one, other, place, wide):
        for n, (cells, others) in enumerate(zip(one, other)):
            differing = [k for k in range(len(cells)) if cells[k] != others[k]]
            self.assertNotEqual(differing, [])
            for k in differing:
                self.assertLessEqual(abs(k % wide - place[0]), n)
                self.assertLessEqual(abs(k // wide - place[1]), n)

"""Promise 2: gb_work."""

import random
import unittest

from bitgasdesk.board import answers
from tests.plainboard import (
    FULL, KEYS, MOVES, TURN, WORK, ahead_of, both_started, edge, neighbour, now_of, random_flying, random_walls, seen,
    start_call, started, step, told, turned, work_all,
)


def after_one_step(directions, place, key, words=2, height=7, walls=None, steps_ahead=0):
    """Where those that are alone at this place are one step later, begun so many empty steps on."""
    board = started(words, height, key, walls)
    for _ in range(steps_ahead):
        step(board)
    board.gas[board.sweep % 2][place[1]] = [(1 << place[0]) if d in directions else 0 for d in range(6)]
    step(board)
    return now_of(board)


def flown_from(place, directions):
    return {(neighbour(place, d), d) for d in directions}


def key_bit(place, sweep):
    return 1 << ((place[0] + 5 * place[1] + 11 * sweep) % 64)


class AnswersTest(unittest.TestCase):
    def test_one_for_each_row_then_0(self):
        for words, height in ((1, 3), (1, 4), (8, 3), (2, 256)):
            calls = start_call(words, height) + WORK * (height + 3)
            self.assertEqual(answers(calls), told(0, *[1] * height, 0, 0, 0))

    def test_rows_wait_again_when_turned(self):
        calls = start_call(1, 3) + (WORK * 4 + TURN) * 2
        self.assertEqual(answers(calls), told(0, 1, 1, 1, 0, 0, 1, 1, 1, 0, 0))

    def test_rows_are_done_in_order_from_the_first(self):
        board = started(1, 5)
        for y in range(5):
            self.assertEqual(board.gb_work(), 1)
            self.assertEqual(list(board.states), [2] * (y + 1) + [0] * (4 - y))

    def test_0_changes_nothing(self):
        board = started(1, 4, 5, None, {((1, 1), 3), ((1, 2), 4)})
        step(board)
        work_all(board)
        before = seen(board)
        self.assertEqual(board.gb_work(), 0)
        self.assertEqual(seen(board), before)


class FliesTest(unittest.TestCase):
    def test_one_alone_flies_to_its_neighbour(self):
        for words in (1, 2, 8):
            last = 64 * words - 1
            for x in (1, 30, 62, 63, 64, 127, last - 2, last - 1):
                if x >= last:
                    continue
                for y in (1, 2, 3, 4, 5):
                    for d in range(6):
                        with self.subTest(words=words, x=x, y=y, d=d):
                            board = started(words, 7, 0, None, {((x, y), d)})
                            step(board)
                            self.assertEqual(now_of(board), {(neighbour((x, y), d), d)})

    def test_place_63_and_the_next_word_by_hand(self):
        # From a row of an even number, then from one of an odd number: the place each direction leads to.
        led = {
            (63, 2): [(64, 2), (63, 1), (62, 1), (62, 2), (62, 3), (63, 3)],
            (64, 2): [(65, 2), (64, 1), (63, 1), (63, 2), (63, 3), (64, 3)],
            (63, 3): [(64, 3), (64, 2), (63, 2), (62, 3), (63, 4), (64, 4)],
            (64, 3): [(65, 3), (65, 2), (64, 2), (63, 3), (64, 4), (65, 4)],
        }
        for words in (2, 8):
            for place, places in led.items():
                for d in range(6):
                    with self.subTest(words=words, place=place, d=d):
                        board = started(words, 6, 0, None, {(place, d)})
                        step(board)
                        self.assertEqual(now_of(board), {(places[d], d)})

    def test_each_word_border_of_the_widest_board(self):
        for x in range(63, 511, 64):
            for y in (1, 2):
                flying = {((x, y), 0), ((x + 1, y), 5)}
                board = started(8, 4, 0, None, flying)
                step(board)
                self.assertEqual(now_of(board), {(neighbour(p, d), d) for p, d in flying})

    def test_next_row_by_row(self):
        # One flies up, one stays in its row, one flies down: each is there with the row it flies to.
        board = started(1, 5, 0, None, {((10, 2), 1), ((20, 2), 0), ((30, 2), 5)})
        there = [set(), {((10, 1), 1)}, {((21, 2), 0)}, {((30, 3), 5)}, set()]
        held = set()
        for y in range(5):
            board.gb_work()
            held |= there[y]
            self.assertEqual(ahead_of(board), held)

    def test_beyond_the_board_nothing_flies(self):
        # No calls lead to one that leaves the board, so it is set there: at a wall of the edge, to be thrown out.
        for words in (1, 2, 8):
            for place in sorted(edge(words, 7)):
                if 4 < place[0] < 64 * words - 4 and place[0] not in (63, 64):
                    continue
                for d in range(6):
                    there = after_one_step({d}, place, 0, words)
                    thrown = neighbour(place, (d + 3) % 6)
                    inside = 0 <= thrown[0] < 64 * words and 0 <= thrown[1] < 7
                    self.assertEqual(there, {(thrown, (d + 3) % 6)} if inside else set())

    def test_now_stays_while_rows_are_done(self):
        flying = {((10, 2), 1), ((20, 2), 0), ((30, 2), 5)}
        board = started(1, 5, 0, None, flying)
        while board.gb_work() == 1:
            self.assertEqual(now_of(board), flying)


class MeetTest(unittest.TestCase):
    places = ((30, 2), (30, 3), (63, 2), (64, 3), (63, 3), (64, 2))

    def test_two_head_on_by_the_bit_of_the_key(self):
        for place in self.places:
            for sweep in (0, 1, 2, 3, 7, 12):
                bit = key_bit(place, sweep)
                for k in range(3):
                    with self.subTest(place=place, sweep=sweep, k=k):
                        pair = {k, k + 3}
                        for key in (0, FULL ^ bit):
                            there = after_one_step(pair, place, key, steps_ahead=sweep)
                            self.assertEqual(there, flown_from(place, turned(pair, 1)))
                        for key in (FULL, bit):
                            there = after_one_step(pair, place, key, steps_ahead=sweep)
                            self.assertEqual(there, flown_from(place, turned(pair, 5)))

    def test_two_head_on_by_hand(self):
        # At (20, 3) with sweep 0 the bit's number is 20 + 15 = 35.
        board = started(1, 6, 1 << 35, None, {((20, 3), 0), ((20, 3), 3)})
        step(board)
        self.assertEqual(now_of(board), {((20, 2), 2), ((21, 4), 5)})
        board = started(1, 6, FULL ^ (1 << 35), None, {((20, 3), 0), ((20, 3), 3)})
        step(board)
        self.assertEqual(now_of(board), {((21, 2), 1), ((20, 4), 4)})

    def test_three_of_every_other_direction(self):
        for place in self.places:
            for key in KEYS:
                for three in ({0, 2, 4}, {1, 3, 5}):
                    there = after_one_step(three, place, key)
                    self.assertEqual(there, flown_from(place, turned(three, 3)))

    def test_six_fly_on(self):
        for place in self.places:
            for key in KEYS:
                self.assertEqual(after_one_step(set(range(6)), place, key), flown_from(place, range(6)))

    def test_all_others_fly_on(self):
        turning = [{0, 3}, {1, 4}, {2, 5}, {0, 2, 4}, {1, 3, 5}]
        for number in range(64):
            directions = {d for d in range(6) if number >> d & 1}
            if directions in turning:
                continue
            for place in ((30, 2), (63, 3)):
                for key in (0, FULL):
                    there = after_one_step(directions, place, key)
                    self.assertEqual(there, flown_from(place, directions))

    def test_all_at_a_wall_are_turned_by_3(self):
        for number in range(64):
            directions = {d for d in range(6) if number >> d & 1}
            for place in ((30, 2), (63, 3), (64, 2)):
                for key in (0, FULL):
                    there = after_one_step(directions, place, key, walls=edge(2, 7) | {place})
                    self.assertEqual(there, flown_from(place, turned(directions, 3)))


class WallTest(unittest.TestCase):
    def test_a_wall_of_one_place(self):
        for wall in ((30, 2), (30, 3), (63, 2), (64, 2), (63, 3), (64, 3)):
            for d in range(6):
                with self.subTest(wall=wall, d=d):
                    source = neighbour(wall, (d + 3) % 6)
                    board = started(2, 6, 0, edge(2, 6) | {wall}, {(source, d)})
                    step(board)
                    self.assertEqual(now_of(board), {(wall, d)})
                    self.assertEqual(tuple(board.push), (0, 0))
                    for y in range(6):
                        board.gb_work()
                        more = (2 * MOVES[d][0], 2 * MOVES[d][1]) if y >= wall[1] else (0, 0)
                        self.assertEqual(tuple(board.push), more)
                    board.gb_turn()
                    self.assertEqual(now_of(board), {(source, (d + 3) % 6)})

    def test_push_is_by_those_at_walls_alone_and_as_they_come(self):
        wall = (40, 3)
        flying = {(neighbour(wall, 3), 0), (neighbour(wall, 5), 2), ((10, 2), 0), ((20, 4), 1)}
        board = started(1, 7, 0, edge(1, 7) | {wall}, flying)
        step(board)
        step(board)
        # Twice (1, 0) and (-1, 1) together.
        self.assertEqual(tuple(board.push), (0, 2))

    def test_push_below_0(self):
        for d, push in ((0, (2, 0)), (1, (0, 2)), (2, (-2, 2)), (3, (-2, 0)), (4, (0, -2)), (5, (2, -2))):
            wall = (20, 4)
            board = started(1, 9, 0, edge(1, 9) | {wall}, {(neighbour(wall, (d + 3) % 6), d)})
            step(board)
            step(board)
            self.assertEqual(tuple(board.push), push)

    def test_push_goes_further_below_0(self):
        # It flies to and fro between two walls; the one further left gets (-2, 0), the other (2, 0).
        board = started(1, 3, 0, edge(1, 3) | {(3, 1)}, {((1, 1), 3), ((2, 1), 3)})
        pushes = []
        for _ in range(8):
            step(board)
            pushes.append(tuple(board.push))
        self.assertEqual(pushes, [(0, 0), (-2, 0), (-4, 0), (-4, 0), (-2, 0), (0, 0), (0, 0), (-2, 0)])

    def test_a_corner_of_two_walls(self):
        for x, y in ((1, 1), (62, 1), (1, 4), (62, 4)):
            for d in range(6):
                with self.subTest(place=(x, y), d=d):
                    board, plain = both_started(1, 6, 0, None, {((x, y), d)})
                    for _ in range(6):
                        step(board)
                        while plain.work() == 1:
                            pass
                        plain.turn()
                        self.assertEqual(seen(board), plain.seen())

    def test_in_a_corner_by_hand(self):
        # In row 1, place 1, direction 2 leads to (1, 0) and direction 3 to (0, 1): both walls.
        board = started(1, 4, 0, None, {((1, 1), 2), ((1, 1), 3)})
        step(board)
        self.assertEqual(now_of(board), {((1, 0), 2), ((0, 1), 3)})
        board.gb_work()
        self.assertEqual(tuple(board.push), (-2, 2))
        board.gb_work()
        self.assertEqual(tuple(board.push), (-4, 2))
        work_all(board)
        board.gb_turn()
        self.assertEqual(now_of(board), {((1, 1), 5), ((1, 1), 0)})
        self.assertEqual(tuple(board.push), (-4, 2))


class AfterEachRowTest(unittest.TestCase):
    def check(self, board, plain, sweeps):
        for _ in range(sweeps):
            while True:
                answer = plain.work()
                self.assertEqual(board.gb_work(), answer)
                self.assertEqual(seen(board), plain.seen())
                if answer == 0:
                    break
            self.assertEqual(board.gb_turn(), plain.turn())
            self.assertEqual(seen(board), plain.seen())

    def test_boards_of_several_sizes(self):
        source = random.Random(2)
        for words, height, sweeps in ((1, 3, 6), (1, 8, 6), (2, 5, 5), (3, 4, 4), (8, 5, 4)):
            for share in (0.05, 0.3, 0.6):
                with self.subTest(words=words, height=height, share=share):
                    walls = random_walls(source, words, height, 0.1)
                    flying = random_flying(source, words, height, walls, share)
                    key = source.getrandbits(64)
                    self.check(*both_started(words, height, key, walls, flying), sweeps)

    def test_each_key_with_the_edge_alone(self):
        source = random.Random(3)
        for key in KEYS:
            flying = random_flying(source, 1, 6, edge(1, 6), 0.35)
            self.check(*both_started(1, 6, key, None, flying), 4)

    def test_a_full_board(self):
        flying = {((x, y), d) for x in range(1, 127) for y in range(1, 5) for d in range(6)}
        self.check(*both_started(2, 6, 0x0123456789ABCDEF, None, flying), 4)

    def test_the_largest_board_one_sweep(self):
        source = random.Random(4)
        walls = random_walls(source, 8, 256, 0.02)
        flying = random_flying(source, 8, 256, walls, 0.02)
        board, plain = both_started(8, 256, source.getrandbits(64), walls, flying)
        work_all(board)
        self.assertEqual(ahead_of(board), plain.flown())
        board.gb_turn()
        plain.now, plain.sweep = plain.flown(), 1
        work_all(board)
        self.assertEqual(ahead_of(board), plain.flown())

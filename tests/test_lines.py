"""Lines of all the calls in any order, as the plain board answers them."""

import random
import unittest

from bitgasdesk.board import answers
from tests.plainboard import (
    BACK, LARGEST, PUSH, TURN, WORK, PlainBoard, cell_call, edge, empty_start_call, random_flying, random_walls,
    start_call, sum_call, told,
)


def good_start(source):
    words, height = source.choice(((1, 3), (1, 4), (2, 3), (2, 5), (3, 4), (8, 3)))
    walls = random_walls(source, words, height, 0.1)
    flying = random_flying(source, words, height, walls, 0.3)
    return words, height, source.getrandbits(64), walls, flying


def bad_start_call(source):
    words, height = source.choice(((1, 3), (2, 4), (8, 3)))
    place = source.choice(sorted(edge(words, height)))
    return source.choice((
        empty_start_call(*source.choice(((0, 3), (9, 3), (1, 2), (1, 257), (LARGEST, LARGEST)))),
        start_call(words, height, 5, edge(words, height) - {place}),
        start_call(words, height, 5, None, {(place, source.randrange(6))}),
    ))


def near(source, size):
    """A number on or about a side of this size."""
    return source.choice((source.randrange(size), source.randrange(size + 1), size - 1, size, size + 1, LARGEST))


class Line:
    """A line of calls, built beside a plain board that answers them."""

    def __init__(self, source):
        self.source, self.calls, self.answers = source, [], []
        self.start()

    def add(self, call, answer):
        self.calls += call
        self.answers.append(answer)

    def start(self):
        numbers = good_start(self.source)
        self.plain = PlainBoard(*numbers)
        self.add(start_call(*numbers), 0)

    def refused_start(self):
        self.add(bad_start_call(self.source), -22)

    def work(self):
        self.add(WORK, self.plain.work())

    def sweep(self):
        for _ in range(self.plain.height):
            self.work()
        self.turn()

    def turn(self):
        self.add(TURN, self.plain.turn())

    def back(self):
        self.add(BACK, self.plain.back())

    def cell(self):
        x, y = near(self.source, 64 * self.plain.words), near(self.source, self.plain.height)
        self.add(cell_call(x, y), self.plain.cell(x, y))

    def cell_where_one_is(self):
        if self.plain.now:
            x, y = self.source.choice(sorted(self.plain.now))[0]
            self.add(cell_call(x, y), self.plain.cell(x, y))

    def sums(self):
        x0, x1 = [near(self.source, 64 * self.plain.words) for _ in range(2)]
        y0, y1 = [near(self.source, self.plain.height) for _ in range(2)]
        if self.source.random() < 0.7:
            x0, x1, y0, y1 = min(x0, x1), max(x0, x1), min(y0, y1), max(y0, y1)
        self.add(sum_call(x0, y0, x1, y1), self.plain.sums(x0, y0, x1, y1))

    def push(self):
        self.add(PUSH, self.plain.push)

    def add_any(self):
        many = (self.work, self.sweep, self.turn, self.back, self.cell, self.cell_where_one_is, self.sums, self.push)
        if self.source.random() < 0.03:
            self.source.choice((self.start, self.refused_start))()
        else:
            self.source.choice(many)()


class LinesTest(unittest.TestCase):
    def test_any_order(self):
        for seed in range(60):
            with self.subTest(seed=seed):
                line = Line(random.Random(seed))
                for _ in range(60):
                    line.add_any()
                self.assertEqual(answers(line.calls), told(*line.answers))

    def test_3000_calls(self):
        line = Line(random.Random(100))
        many = (line.work, line.work, line.work, line.turn, line.turn, line.push, line.cell, line.back)
        while len(line.answers) < 2980:
            line.source.choice(many)()
        while len(line.answers) < 3000:
            line.sums()
        self.assertLessEqual(len(line.calls), 16000)
        self.assertEqual(answers(line.calls), told(*line.answers))

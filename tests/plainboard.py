"""What the tests share: boards as calls, and a plain board that follows the document place by place."""

from bitgasdesk.board import Board

MOVES = [(1, 0), (0, 1), (-1, 1), (-1, 0), (0, -1), (1, -1)]
FULL = 2 ** 64 - 1
KEYS = [0, FULL, 1, 2 ** 63, 0x9E3779B97F4A7C15]


def neighbour(place, d):
    x, y = place
    o = y % 2
    return [(x + 1, y), (x + o, y - 1), (x + o - 1, y - 1),
            (x - 1, y), (x + o - 1, y + 1), (x + o, y + 1)][d]


def edge(words, height):
    return {(x, y) for x in range(64 * words) for y in range(height)
            if x in (0, 64 * words - 1) or y in (0, height - 1)}


def turned(directions, k):
    return {(d + k) % 6 for d in directions}


def met(directions, is_wall, way):
    if is_wall:
        return turned(directions, 3)
    if directions in ({0, 3}, {1, 4}, {2, 5}):
        return turned(directions, 5 if way else 1)
    if directions in ({0, 2, 4}, {1, 3, 5}):
        return turned(directions, 3)
    return set(directions)


def together(flying):
    """How all of these (place, direction) move."""
    return (sum(MOVES[d][0] for _, d in flying), sum(MOVES[d][1] for _, d in flying))


def words_of(places, words, height):
    """These places as rows of words, row by row."""
    numbers = [0] * (words * height)
    for x, y in places:
        numbers[y * words + x // 64] |= 1 << (x % 64)
    return numbers


def gas_of(flying, words, height):
    """These (place, direction) as six times such rows, one direction behind another."""
    numbers = []
    for d in range(6):
        numbers += words_of({p for p, e in flying if e == d}, words, height)
    return numbers


def start_numbers(words, height, key, walls, flying):
    return words, height, key, words_of(walls, words, height), gas_of(flying, words, height)


def start_call(words, height, key=0, walls=None, flying=()):
    """gb_start as a list of numbers; without walls those of the edge alone are there."""
    if walls is None:
        walls = edge(words, height)
    wall = words_of(walls, words, height)
    gas = gas_of(flying, words, height)
    return [0, words, height, key, len(wall)] + wall + [len(gas)] + gas


def empty_start_call(words, height, key=0):
    """gb_start with a width or a height that has no rows."""
    return [0, words, height, key, 0, 0]


def told(*numbers):
    """What is given back for calls that answer these numbers."""
    out = []
    for number in numbers:
        out += [2, 0, number]
    return out


def random_walls(source, words, height, share):
    inner = {(x, y) for y in range(height) for x in range(64 * words) if source.random() < share}
    return edge(words, height) | inner


def random_flying(source, words, height, walls, share):
    return {((x, y), d) for y in range(height) for x in range(64 * words) for d in range(6)
            if (x, y) not in walls and source.random() < share}


class PlainBoard:
    """The document's board, place by place. It takes steps back by what it remembers, not by working them out."""

    def __init__(self, words, height, key, walls, flying):
        self.words, self.height, self.key = words, height, key
        self.walls = set(walls)
        self.sweep = 0
        self.push = (0, 0)
        self.states = [0] * height
        self.now = set(flying)
        self.ahead = set()
        self.past = []
        self.push_at_turn = (0, 0)

    def on_board(self, place):
        return 0 <= place[0] < 64 * self.words and 0 <= place[1] < self.height

    def way(self, place):
        return self.key >> ((place[0] + 5 * place[1] + 11 * self.sweep) % 64) & 1

    def flown(self):
        """Where all are when they have met and flown."""
        at = {}
        for place, d in self.now:
            at.setdefault(place, set()).add(d)
        out = set()
        for place, directions in at.items():
            for d in met(directions, place in self.walls, self.way(place)):
                if self.on_board(neighbour(place, d)):
                    out.add((neighbour(place, d), d))
        return out

    def do_row(self, y):
        rest = {(p, d) for p, d in self.ahead if p[1] != y}
        self.ahead = rest | {(p, d) for p, d in self.flown() if p[1] == y}
        moved = together([(p, d) for p, d in self.now if p[1] == y and p in self.walls])
        self.push = (self.push[0] + 2 * moved[0], self.push[1] + 2 * moved[1])
        self.states[y] = 2

    def work(self):
        if 0 not in self.states:
            return 0
        self.do_row(self.states.index(0))
        return 1

    def turn(self):
        if 0 in self.states:
            return -11
        self.past.append((set(self.now), self.push_at_turn))
        self.now, self.ahead = self.ahead, self.now
        self.sweep += 1
        self.push_at_turn = self.push
        self.states = [0] * self.height
        return 0

    def back(self):
        if 2 in self.states:
            return -11
        if self.sweep == 0:
            return -2
        was_now = self.now
        self.now, self.push = self.past.pop()
        self.push_at_turn = self.push
        self.ahead = was_now
        self.sweep -= 1
        return 0

    def seen(self):
        return self.sweep, self.push, list(self.states), set(self.now), set(self.ahead)


def flying_in(rows):
    """The (place, direction) of the program's rows."""
    out = set()
    for y, six in enumerate(rows):
        assert len(six) == 6
        for d, row in enumerate(six):
            assert row >= 0
            x = 0
            while row:
                if row & 1:
                    out.add(((x, y), d))
                row >>= 1
                x += 1
    return out


def now_of(board):
    return flying_in(board.gas[board.sweep % 2])


def ahead_of(board):
    return flying_in(board.gas[(board.sweep + 1) % 2])


def seen(board):
    """The program's board in the form of PlainBoard.seen."""
    return board.sweep, tuple(board.push), list(board.states), now_of(board), ahead_of(board)


def whole(board):
    """All that the program's board has, to be compared later."""
    walls = list(board.walls)
    return seen(board) + (board.words, board.height, board.key, walls)


def started(words, height, key=0, walls=None, flying=()):
    """The program's board, begun so."""
    if walls is None:
        walls = edge(words, height)
    board = Board()
    answer = board.gb_start(*start_numbers(words, height, key, walls, flying))
    if answer != 0:
        raise ValueError(f"the start is answered {answer}")
    return board


def both_started(words, height, key=0, walls=None, flying=()):
    if walls is None:
        walls = edge(words, height)
    return started(words, height, key, walls, flying), PlainBoard(words, height, key, walls, flying)


def work_all(board):
    while board.gb_work() == 1:
        pass


def step(board):
    """One whole sweep of the program's board."""
    work_all(board)
    answer = board.gb_turn()
    if answer != 0:
        raise ValueError(f"the turn is answered {answer}")

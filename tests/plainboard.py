"""What the tests share: boards as calls, and a plain board that follows the document place by place."""

from bitgasdesk.board import Board, answers

MOVES = [(1, 0), (0, 1), (-1, 1), (-1, 0), (0, -1), (1, -1)]
FULL = 2 ** 64 - 1
KEYS = [0, FULL, 1, 2 ** 63, 0x9E3779B97F4A7C15]
LARGEST = 2 ** 32 - 1

WORK, TURN, BACK, PUSH = [1], [2], [3], [6]


def neighbour(place, d):
    x, y = place
    o = y % 2
    return [(x + 1, y), (x + o, y - 1), (x + o - 1, y - 1),
            (x - 1, y), (x + o - 1, y + 1), (x + o, y + 1)][d]


def edge(words, height):
    return {(x, y) for x in range(64 * words) for y in range(height)
            if x in (0, 64 * words - 1) or y in (0, height - 1)}


def turned(directions, k):
    return {(d + k) % 6 for d in directions}


def met(directions, is_wall, way):
    if is_wall:
        return turned(directions, 3)
    if directions in ({0, 3}, {1, 4}, {2, 5}):
        return turned(directions, 5 if way else 1)
    if directions in ({0, 2, 4}, {1, 3, 5}):
        return turned(directions, 3)
    return set(directions)


def together(flying):
    """How all of these (place, direction) move."""
    return (sum(MOVES[d][0] for _, d in flying), sum(MOVES[d][1] for _, d in flying))


def words_of(places, words, height):
    """These places as rows of words, row by row."""
    numbers = [0] * (words * height)
    for x, y in places:
        numbers[y * words + x // 64] |= 1 << (x % 64)
    return numbers


def gas_of(flying, words, height):
    """These (place, direction) as six times such rows, one direction behind another."""
    numbers = []
    for d in range(6):
        numbers += words_of({p for p, e in flying if e == d}, words, height)
    return numbers


def start_numbers(words, height, key, walls, flying):
    return words, height, key, words_of(walls, words, height), gas_of(flying, words, height)


def start_call(words, height, key=0, walls=None, flying=()):
    """gb_start as a list of numbers; without walls those of the edge alone are there."""
    if walls is None:
        walls = edge(words, height)
    wall = words_of(walls, words, height)
    gas = gas_of(flying, words, height)
    return [0, words, height, key, len(wall)] + wall + [len(gas)] + gas


def empty_start_call(words, height, key=0):
    """gb_start with a width or a height that has no rows."""
    return [0, words, height, key, 0, 0]


def cell_call(x, y):
    return [4, x, y]


def sum_call(x0, y0, x1, y1):
    return [5, x0, y0, x1, y1]


def cell_calls(words, rows):
    """gb_cell of every place of these rows."""
    calls = []
    for y in rows:
        for x in range(64 * words):
            calls += cell_call(x, y)
    return calls


def whole_sum_call(words, height):
    return sum_call(0, 0, 64 * words, height)


def step_calls(height):
    """One whole sweep as calls."""
    return WORK * height + TURN


def told(*given):
    """What is given back for calls that answer so: a number, or a tuple of several."""
    out = []
    for answer in given:
        if isinstance(answer, tuple):
            out += [2 + len(answer), 1, len(answer), *answer]
        else:
            out += [2, 0, answer]
    return out


def answered(calls):
    """What the program answers to each of these calls, in the form that told takes."""
    if len(calls) > 16000:
        raise ValueError("no list is as long")
    given = answers(calls)
    out = []
    at = 0
    while at < len(given):
        numbers = given[at + 1:at + 1 + given[at]]
        out.append(numbers[1] if numbers[0] == 0 else tuple(numbers[2:]))
        at += 1 + given[at]
    if told(*out) != given:
        raise ValueError("an answer is not in its form")
    if len(out) > 3000:
        raise ValueError("no list has as many calls")
    return out


def random_walls(source, words, height, share):
    inner = {(x, y) for y in range(height) for x in range(64 * words) if source.random() < share}
    return edge(words, height) | inner


def random_flying(source, words, height, walls, share):
    return {((x, y), d) for y in range(height) for x in range(64 * words) for d in range(6)
            if (x, y) not in walls and source.random() < share}


class PlainBoard:
    """The document's board, place by place. It takes steps back by what it remembers, not by working them out."""

    def __init__(self, words, height, key, walls, flying):
        self.words, self.height, self.key = words, height, key
        self.walls = set(walls)
        self.sweep = 0
        self.push = (0, 0)
        self.states = [0] * height
        self.now = set(flying)
        self.ahead = set()
        self.past = []
        self.push_at_turn = (0, 0)

    def on_board(self, place):
        return 0 <= place[0] < 64 * self.words and 0 <= place[1] < self.height

    def way(self, place):
        return self.key >> ((place[0] + 5 * place[1] + 11 * self.sweep) % 64) & 1

    def flown(self):
        """Where all are when they have met and flown."""
        at = {}
        for place, d in self.now:
            at.setdefault(place, set()).add(d)
        out = set()
        for place, directions in at.items():
            for d in met(directions, place in self.walls, self.way(place)):
                if self.on_board(neighbour(place, d)):
                    out.add((neighbour(place, d), d))
        return out

    def do_row(self, y):
        rest = {(p, d) for p, d in self.ahead if p[1] != y}
        self.ahead = rest | {(p, d) for p, d in self.flown() if p[1] == y}
        moved = together([(p, d) for p, d in self.now if p[1] == y and p in self.walls])
        self.push = (self.push[0] + 2 * moved[0], self.push[1] + 2 * moved[1])
        self.states[y] = 2

    def work(self):
        if 0 not in self.states:
            return 0
        self.do_row(self.states.index(0))
        return 1

    def turn(self):
        if 0 in self.states:
            return -11
        self.past.append((set(self.now), self.push_at_turn))
        self.now, self.ahead = self.ahead, self.now
        self.sweep += 1
        self.push_at_turn = self.push
        self.states = [0] * self.height
        return 0

    def back(self):
        if 2 in self.states:
            return -11
        if self.sweep == 0:
            return -2
        was_now = self.now
        self.now, self.push = self.past.pop()
        self.push_at_turn = self.push
        self.ahead = was_now
        self.sweep -= 1
        return 0

    def cell(self, x, y):
        if not self.on_board((x, y)):
            return -22
        return sum(1 << d for d in range(6) if ((x, y), d) in self.now) + 64 * ((x, y) in self.walls)

    def sums(self, x0, y0, x1, y1):
        if x0 > x1 or x1 > 64 * self.words or y0 > y1 or y1 > self.height:
            return -22
        there = [(p, d) for p, d in self.now if x0 <= p[0] < x1 and y0 <= p[1] < y1]
        return (len(there),) + together(there)

    def seen(self):
        return self.sweep, self.push, list(self.states), set(self.now), set(self.ahead)


def flying_in(rows):
    """The (place, direction) of the program's rows."""
    out = set()
    for y, six in enumerate(rows):
        assert len(six) == 6
        for d, row in enumerate(six):
            assert row >= 0
            x = 0
            while row:
                if row & 1:
                    out.add(((x, y), d))
                row >>= 1
                x += 1
    return out


def now_of(board):
    return flying_in(board.gas[board.sweep % 2])


def ahead_of(board):
    return flying_in(board.gas[(board.sweep + 1) % 2])


def seen(board):
    """The program's board in the form of PlainBoard.seen."""
    return board.sweep, tuple(board.push), list(board.states), now_of(board), ahead_of(board)


def whole(board):
    """All that the program's board has, to be compared later."""
    walls = list(board.walls)
    return seen(board) + (board.words, board.height, board.key, walls)


def started(words, height, key=0, walls=None, flying=()):
    """The program's board, begun so."""
    if walls is None:
        walls = edge(words, height)
    board = Board()
    answer = board.gb_start(*start_numbers(words, height, key, walls, flying))
    if answer != 0:
        raise ValueError(f"the start is answered {answer}")
    return board


def both_started(words, height, key=0, walls=None, flying=()):
    if walls is None:
        walls = edge(words, height)
    return started(words, height, key, walls, flying), PlainBoard(words, height, key, walls, flying)


def both_random(source, words, height):
    """Both boards, begun in the same way with some walls and something flying."""
    walls = random_walls(source, words, height, 0.1)
    flying = random_flying(source, words, height, walls, 0.35)
    return both_started(words, height, source.getrandbits(64), walls, flying)


def both_do(case, board, plain, what):
    """The call of this name on both boards, which are to answer the same."""
    case.assertEqual(getattr(board, "gb_" + what)(), getattr(plain, what)())


def work_all(board):
    while board.gb_work() == 1:
        pass


def step(board):
    """One whole sweep of the program's board."""
    work_all(board)
    answer = board.gb_turn()
    if answer != 0:
        raise ValueError(f"the turn is answered {answer}")

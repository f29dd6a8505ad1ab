"""A gas of bits on a board of places in six directions, and the calls on it, told in whole numbers."""

START = 0
WORK = 1
TURN = 2
BACK = 3
CELL = 4
SUM = 5
PUSH = 6

FORM_NUMBER = 0
FORM_SEVERAL = 1

BEGINNING = -2
NOT_NOW = -11
WRONG = -22
NO_MORE = -28

WAITS = 0
DONE = 2

# 2 to the power of 40: the sweep is never turned beyond it.
LAST_SWEEP = 1099511627776

FULL_WORD = 18446744073709551615

# What flies at a place or a row of places, direction by direction, where there is nothing.
NOTHING = (0, 0, 0, 0, 0, 0)

# How each direction moves. This is not how far its neighbour lies: the rows are half a place askew.
MOVES = ((1, 0), (0, 1), (-1, 1), (-1, 0), (0, -1), (1, -1))

# How far right and down the neighbour in each direction lies, from rows of even and from rows of odd numbers.
NEIGHBOURS = (
    ((1, 0), (0, -1), (-1, -1), (-1, 0), (-1, 1), (0, 1)),
    ((1, 0), (1, -1), (0, -1), (-1, 0), (0, 1), (1, 1)),
)


class UnknownCall(ValueError):
    """A list of calls has a call that this program doesn't answer."""


def joined(row):
    """The words of a row as one whole number: bit x is place x."""
    whole = 0
    for word in reversed(row):
        whole = (whole << 64) | word
    return whole


def joined_rows(numbers, words):
    """Rows of so many words, one behind another, each as one whole number."""
    return [joined(numbers[at:at + words]) for at in range(0, len(numbers), words)]


def six_of_row(rows, height, y):
    """Row y in each direction, out of rows that stand one direction behind another."""
    return [rows[d * height + y] for d in range(6)]


def rotated(word, by):
    """The word whose bit j is bit j + by, modulo 64, of this one; by is 0 to 63."""
    return (word >> by) | ((word << (64 - by)) & FULL_WORD)


def ones(row, full):
    """How many bits of the row are 1; full is a row as wide, of whole words, with all of them 1."""
    # Each is full cut into parts of so many bits, with the lower half of each part 1.
    ones_of_2 = full // 3
    twos_of_4 = full // 5
    fours_of_8 = full // 17
    eights_of_16 = full // 257
    row = (row & ones_of_2) + ((row >> 1) & ones_of_2)
    row = (row & twos_of_4) + ((row >> 2) & twos_of_4)
    row = (row & fours_of_8) + ((row >> 4) & fours_of_8)
    row = (row & eights_of_16) + ((row >> 8) & eights_of_16)
    # Each 16 bits now hold their own count; divided by 65535, 65536 leaves 1, so that all counts are left, together.
    return row % 65535


def shifted(row, by, full):
    """The row with all moved right by 1, 0 or -1 places; what leaves the board is gone."""
    if by == 1:
        return (row << 1) & full
    if by == -1:
        return row >> 1
    return row


def just_these(flying, directions):
    """The places where something flies in all of these directions and in no other."""
    there = flying[directions[0]]
    for d in range(6):
        if d in directions:
            there = there & flying[d]
        else:
            there = there & ~flying[d]
    return there


def met(flying, wall, way):
    """What becomes of all that fly in a row, where they meet."""
    pairs = [just_these(flying, (k, k + 3)) & ~wall for k in range(3)]
    threes = [just_these(flying, (k, k + 2, k + 4)) & ~wall for k in range(2)]
    turning = wall | pairs[0] | pairs[1] | pairs[2] | threes[0] | threes[1]
    out = []
    for d in range(6):
        straight = flying[d] & ~turning
        thrown_back = flying[(d + 3) % 6] & wall
        # A pair is the same in directions 3 apart: turned by 1 it comes from d - 1, which is d + 2 there.
        turned_by_1 = pairs[(d + 2) % 3] & ~way
        turned_by_5 = pairs[(d + 1) % 3] & way
        turned_by_3 = threes[(d + 3) % 2]
        out.append(straight | thrown_back | turned_by_1 | turned_by_5 | turned_by_3)
    return out


def counted(flying, places, full):
    """How many fly at these places of a row, direction by direction."""
    return [ones(row & places, full) for row in flying]


def movement(counts):
    """How so many in each direction move, together."""
    first = sum([many * move[0] for many, move in zip(counts, MOVES)])
    second = sum([many * move[1] for many, move in zip(counts, MOVES)])
    return (first, second)


def edge_is_wall(walls, full):
    """Whether every place at the board's edge is one of a wall."""
    if walls[0] != full or walls[len(walls) - 1] != full:
        return False
    first = 1
    last = full ^ (full >> 1)
    sides = first | last
    return all([(row & sides) == sides for row in walls])


def flies_at_wall(walls, gas):
    """Whether something flies at a place of a wall."""
    for wall, flying in zip(walls, gas):
        if any([(row & wall) != 0 for row in flying]):
            return True
    return False


class Board:
    """The board. A row is one whole number, so that a place and its neighbour in the next word are side by side."""

    def __init__(self):
        self.sweep = 0
        self.words = 0
        self.height = 0
        self.push = (0, 0)
        self.key = 0
        self.full = 0
        self.states = []
        self.walls = []
        self.gas = [[], []]

    def gb_start(self, words, height, key, wall, gas):
        if words < 1 or words > 8 or height < 3 or height > 256:
            return WRONG
        full = joined([FULL_WORD] * words)
        walls = joined_rows(wall, words)
        rows = joined_rows(gas, words)
        now = [six_of_row(rows, height, y) for y in range(height)]
        if not edge_is_wall(walls, full) or flies_at_wall(walls, now):
            return WRONG
        self.sweep = 0
        self.words = words
        self.height = height
        self.push = (0, 0)
        self.key = key
        self.full = full
        self.states = [WAITS] * height
        self.walls = walls
        self.gas = [now, [NOTHING] * height]
        return 0

    def gb_work(self):
        if WAITS not in self.states:
            return 0
        y = self.states.index(WAITS)
        self.gas[(self.sweep + 1) % 2][y] = self.row_after(y)
        self.add_push(y, 2)
        self.states[y] = DONE
        return 1

    def gb_turn(self):
        if WAITS in self.states:
            return NOT_NOW
        if self.sweep == LAST_SWEEP:
            return NO_MORE
        self.sweep = self.sweep + 1
        self.states = [WAITS] * self.height
        return 0

    def gb_back(self):
        if DONE in self.states:
            return NOT_NOW
        if self.sweep == 0:
            return BEGINNING
        # Next may hold something else than the step before, so that is worked out from what is there now.
        before = [self.row_before(y) for y in range(self.height)]
        self.sweep = self.sweep - 1
        self.gas[self.sweep % 2] = before
        for y in range(self.height):
            self.add_push(y, -2)
        return 0

    def gb_cell(self, x, y):
        if x >= 64 * self.words or y >= self.height:
            return WRONG
        there = ((self.walls[y] >> x) & 1) << 6
        for d, row in enumerate(self.row_now(y)):
            there = there | (((row >> x) & 1) << d)
        return there

    def gb_sum(self, x0, y0, x1, y1):
        if x0 > x1 or x1 > 64 * self.words or y0 > y1 or y1 > self.height:
            return WRONG
        places = (1 << x1) - (1 << x0)
        counts = [0] * 6
        for y in range(y0, y1):
            of_row = counted(self.row_now(y), places, self.full)
            counts = [many + more for many, more in zip(counts, of_row)]
        moved = movement(counts)
        return (sum(counts), moved[0], moved[1])

    def gb_push(self):
        return self.push

    def row_now(self, y):
        """What flies in row y now; beyond the board nothing does."""
        if y < 0 or y >= self.height:
            return NOTHING
        return self.gas[self.sweep % 2][y]

    def row_met(self, y):
        """What becomes of all that are in row y now, before they fly; beyond the board nothing is."""
        if y < 0 or y >= self.height:
            return NOTHING
        return met(self.row_now(y), self.walls[y], self.way(y, self.sweep))

    def row_after(self, y):
        """What has flown to the places of row y, when all have met and flown."""
        sources = {1: self.row_met(y - 1), 0: self.row_met(y), -1: self.row_met(y + 1)}
        flown = []
        for d in range(6):
            # How far down it flies is the same from every row, so it can be asked ahead of where it comes from.
            down = NEIGHBOURS[0][d][1]
            right = NEIGHBOURS[(y - down) % 2][d][0]
            flown.append(shifted(sources[down][d], right, self.full))
        return flown

    def row_before(self, y):
        """What was in row y one sweep before now."""
        flew = []
        for d in range(6):
            right = NEIGHBOURS[y % 2][d][0]
            down = NEIGHBOURS[y % 2][d][1]
            flew.append(shifted(self.row_now(y + down)[d], -right, self.full))
        # Where they turned one way they are turned back the other way.
        other_way = self.way(y, self.sweep - 1) ^ self.full
        return met(flew, self.walls[y], other_way)

    def way(self, y, sweep):
        """Way's bits for row y. The key comes again in each word: 64 places on, its bit number is the same."""
        return joined([rotated(self.key, (5 * y + 11 * sweep) % 64)] * self.words)

    def add_push(self, y, times):
        """Push is more by so many times how all that are at walls of row y now move."""
        moved = movement(counted(self.row_now(y), self.walls[y], self.full))
        self.push = (self.push[0] + times * moved[0], self.push[1] + times * moved[1])


def start_end(calls, at):
    """Where the gb_start that begins here ends."""
    gas_count = at + 5 + calls[at + 4]
    return gas_count + 1 + calls[gas_count]


def call_end(calls, at):
    """Where the call that begins here ends."""
    number = calls[at]
    if number == START:
        return start_end(calls, at)
    if number == CELL:
        return at + 3
    if number == SUM:
        return at + 5
    return at + 1


def start_answer(board, call):
    """What gb_start answers, its numbers and rows being in the call."""
    gas_count = 5 + call[4]
    return board.gb_start(call[1], call[2], call[3], call[5:gas_count], call[gas_count + 1:])


def one_answer(board, call):
    """What the board answers to one call: a number, or a tuple of several."""
    number = call[0]
    if number == START:
        return start_answer(board, call)
    if number == WORK:
        return board.gb_work()
    if number == TURN:
        return board.gb_turn()
    if number == BACK:
        return board.gb_back()
    if number == CELL:
        return board.gb_cell(call[1], call[2])
    if number == SUM:
        return board.gb_sum(call[1], call[2], call[3], call[4])
    if number == PUSH:
        return board.gb_push()
    raise UnknownCall(f"no call has the number {number}")


def told(answer):
    """The numbers that tell an answer, its form first."""
    if isinstance(answer, int):
        return [FORM_NUMBER, answer]
    return [FORM_SEVERAL, len(answer)] + list(answer)


def answers(calls):
    """What a new board answers to these calls: of each how many numbers tell it, and these."""
    board = Board()
    given = []
    at = 0
    while at < len(calls):
        after = call_end(calls, at)
        numbers = told(one_answer(board, calls[at:after]))
        given.append(len(numbers))
        given.extend(numbers)
        at = after
    return given

"""What the tests share: games and calls written as numbers, and a second working-out of the rules.

`Rules` follows the document by another road than the program: squares are (file, row) pairs, positions are
dicts of standing pieces, and values come from the sets of positions that are won or lost within n moves.
"""

import unittest

from endsolver.games import answers

OFF = 64
PASS = 65535
TOP = 4294967295
DRAW, WIN, LOSS = 0, 1, 2

SLIDES = [(1, 0), (-1, 0), (0, 1), (0, -1)]
SLANTS = [(1, 1), (1, -1), (-1, 1), (-1, -1)]


def kind(patterns=(), royal=0, goals=()):
    """A kind; a pattern is (df, dr, reach, how)."""
    return {"royal": royal, "goals": list(goals), "patterns": list(patterns)}


def king(royal=1, goals=(), how=3):
    """A kind that steps to all eight sides."""
    return kind([(df, dr, 1, how) for df, dr in SLIDES + SLANTS], royal, goals)


def rook(royal=0, goals=(), reach=7):
    """A kind that goes straight on."""
    return kind([(df, dr, reach, 3) for df, dr in SLIDES], royal, goals)


def game(board, kinds, pieces, stuck=0, passing=0):
    """A game; a piece is (kind, side)."""
    return {"board": list(board), "kinds": kinds, "pieces": pieces, "stuck": stuck, "passing": passing}


def area(files, rows):
    """The squares of a board of so many files and rows."""
    return [8 * row + file for row in range(rows) for file in range(files)]


def squares_bytes(squares):
    """A set of squares as eight bytes."""
    return [sum(1 << bit for bit in range(8) if 8 * place + bit in squares) for place in range(8)]


def game_bytes(told):
    """A game's bytes."""
    found = [len(told["pieces"]), len(told["kinds"]), told["stuck"], told["passing"]]
    found += squares_bytes(told["board"])
    for one in told["kinds"]:
        found += [one["royal"], len(one["patterns"])] + squares_bytes(one["goals"])
        for df, dr, reach, how in one["patterns"]:
            found += [df % 256, dr % 256, reach, how]
    for number, side in told["pieces"]:
        found += [number, side]
    return found


def take(told):
    """The call game, of a game or of bytes."""
    told = game_bytes(told) if isinstance(told, dict) else list(told)
    return [1, len(told)] + told


def solve(rounds):
    return [2, rounds]


def index(row):
    return [3, len(row)] + list(row)


def pos(number):
    return [4, number]


def value(row):
    return [5, len(row)] + list(row)


def moves(row):
    return [6, len(row)] + list(row)


def play(move, row):
    return [7, move, len(row)] + list(row)


def best(row):
    return [8, len(row)] + list(row)


def line(row):
    return [9, len(row)] + list(row)


def many(what, count=0):
    return [10, what, count]


def next_from(start, what, count=0):
    return [11, start, what, count]


def longest(what):
    return [12, what]


def turns():
    return [13]


def least(row):
    return [14, len(row)] + list(row)


def table():
    return [15]


def judge(given):
    return [16, len(given)] + list(given)


def match(side, most, row, replies=()):
    return [17, side, most, len(row)] + list(row) + [len(replies)] + list(replies)


class Untouched(list):
    """A list that is not to be changed, not for a while either."""

    def refuse(self, *given):
        raise AssertionError("what was handed in was changed")

    append = extend = insert = pop = remove = clear = sort = reverse = refuse
    __setitem__ = __delitem__ = __iadd__ = __imul__ = refuse


def split(given):
    """What each call gave back, out of what the list of calls gave back."""
    found = []
    place = 0
    while place < len(given):
        length = given[place]
        part = given[place + 1:place + 1 + length]
        if length < 1 or len(part) != length:
            raise AssertionError(f"no list of answers: {given}")
        found.append(part)
        place += 1 + length
    return found


def ask(*calls):
    """What each of these calls gives back when they are made one behind another."""
    if len(calls) > 16:
        raise AssertionError("a list has at most 16 calls")
    given = [number for call in calls for number in call]
    found = split(answers(Untouched(given)))
    if len(found) != len(calls):
        raise AssertionError("as many answers as calls are asked")
    return found


def ask_each(told, rounds, calls):
    """The same for any number of calls, each made on the game behind so many rounds."""
    found = []
    for start in range(0, len(calls), 14):
        found += ask(take(told), solve(rounds), *calls[start:start + 14])[2:]
    return found


class Rules:
    """A game by the document's words, worked out a second time."""

    def __init__(self, told):
        self.told = told
        self.board = sorted(set(told["board"]))
        self.pieces = told["pieces"]
        self.kinds = told["kinds"]
        self.count = 2 * (len(self.board) + 1) ** len(self.pieces)

    def rows(self):
        """All right positions, by number."""
        found = {}
        places = self.board + [OFF]
        for number in range(self.count):
            rest, side = divmod(number, 2)
            row = []
            for piece in self.pieces:
                rest, place = divmod(rest, len(places))
                row.append(places[place])
            standing = [square for square in row if square != OFF]
            if len(set(standing)) == len(standing):
                found[number] = tuple(row) + (side,)
        return found

    def lost(self, row, side):
        for square, (number, owner) in zip(row, self.pieces):
            if owner == side and self.kinds[number]["royal"] and square == OFF:
                return True
            if owner != side and square in self.kinds[number]["goals"]:
                return True
        return False

    def moves(self, row):
        side = row[-1]
        if self.lost(row, 0) or self.lost(row, 1):
            return []
        standing = {}
        for square, (number, owner) in zip(row, self.pieces):
            if square != OFF:
                standing[(square % 8, square // 8)] = owner
        found = []
        for piece, (number, owner) in enumerate(self.pieces):
            if owner == side and row[piece] != OFF:
                for pattern in self.kinds[number]["patterns"]:
                    for square in self.ways(row[piece], pattern, standing, side):
                        if 256 * piece + square not in found:
                            found.append(256 * piece + square)
        return found + [PASS] * self.told["passing"]

    def ways(self, start, pattern, standing, side):
        df, dr, reach, how = pattern
        for step in range(1, reach + 1):
            file, row = start % 8 + step * df, start // 8 + step * dr
            if file not in range(8) or row not in range(8) or 8 * row + file not in self.board:
                return
            owner = standing.get((file, row))
            if owner is None:
                if how in (1, 3):
                    yield 8 * row + file
                continue
            if owner != side and how in (2, 3):
                yield 8 * row + file
            return

    def after(self, row, move):
        squares = list(row[:-1])
        if move != PASS:
            piece, square = divmod(move, 256)
            if square in squares:
                squares[squares.index(square)] = OFF
            squares[piece] = square
        return tuple(squares) + (1 - row[-1],)

    def ending(self, row):
        """The outcome of a position at its end; None of another."""
        mine, other = self.lost(row, row[-1]), self.lost(row, 1 - row[-1])
        if mine or other:
            return DRAW if mine and other else LOSS if mine else WIN
        if not self.moves(row):
            return {0: LOSS, 1: DRAW, 2: WIN}[self.told["stuck"]]
        return None

    def values(self):
        """By row (outcome, count). Won within n: a move leads to what is lost within n - 1; lost within n: all
        moves lead to what is won within n - 1. A count is the least such n; where there is none it is a draw."""
        rows = list(self.rows().values())
        after = {row: [self.after(row, move) for move in self.moves(row)] for row in rows}
        won = {row for row in rows if self.ending(row) == WIN}
        lost = {row for row in rows if self.ending(row) == LOSS}
        found = {row: (DRAW, 0) for row in rows}
        found.update({row: (WIN, 0) for row in won})
        found.update({row: (LOSS, 0) for row in lost})
        for within in range(1, len(rows) + 1):
            won_now = won | {row for row in rows if any(other in lost for other in after[row])}
            lost_now = lost | {row for row in rows if after[row] and all(other in won for other in after[row])}
            found.update({row: (WIN, within) for row in won_now - won})
            found.update({row: (LOSS, within) for row in lost_now - lost})
            if (won_now, lost_now) == (won, lost):
                break
            won, lost = won_now, lost_now
        return found


def first_best(rules, values, row):
    """The best move by the document's words."""
    outcome, count = values[row]
    wanted = {WIN: (LOSS, count - 1), LOSS: (WIN, count - 1), DRAW: (DRAW, 0)}[outcome]
    return next(move for move in rules.moves(row) if values[rules.after(row, move)] == wanted)


def table_bytes(rules, values):
    """The table by the document's words."""
    rows = rules.rows()
    codes = [values[rows[number]][0] if number in rows else 3 for number in range(rules.count)]
    codes += [0] * (-len(codes) % 4)
    return [codes[place] + 4 * codes[place + 1] + 16 * codes[place + 2] + 64 * codes[place + 3]
            for place in range(0, len(codes), 4)]


class Numbers:
    """Whole numbers for made-up games, the same every time."""

    def __init__(self, seed):
        self.state = seed

    def below(self, limit):
        self.state = (self.state * 6364136223846793005 + 1442695040888963407) % (1 << 64)
        return (self.state >> 33) % limit


def made_up_game(seed):
    """A small game of any shape: a board with holes, one to three pieces of both sides or of one."""
    numbers = Numbers(seed)
    count = 1 + numbers.below(3)
    corner = numbers.below(5) + 8 * numbers.below(5)
    room = [corner + square for square in area(4, 4)]
    board = []
    while len(board) < (0, 9, 12, 6)[count]:
        board.append(room.pop(numbers.below(len(room))))
    kinds = [made_up_kind(numbers, board) for turn in range(1 + numbers.below(3))]
    pieces = [(numbers.below(len(kinds)), (piece + numbers.below(4) // 3) % 2) for piece in range(count)]
    return game(sorted(board), kinds, pieces, numbers.below(3), numbers.below(5) // 4)


def made_up_kind(numbers, board):
    """A kind of up to six patterns."""
    patterns = []
    for turn in range(1 + numbers.below(6)):
        df, dr = (SLIDES + SLANTS + [(1, 2), (2, -1)])[numbers.below(10)]
        patterns.append((df, dr, 1 + numbers.below(2), (3, 1, 3, 2)[numbers.below(4)]))
    goals = [square for square in board if numbers.below(12) == 0]
    return kind(patterns, numbers.below(2), goals)


def made_up_games(count):
    """So many made-up games."""
    return [made_up_game(seed) for seed in range(1, count + 1)]


class GameTest(unittest.TestCase):
    """Tests that compare what calls give back."""

    def check(self, calls, wanted):
        self.assertEqual(ask(*calls), wanted)

    def check_last(self, calls, wanted):
        self.assertEqual(ask(*calls)[-1], wanted)

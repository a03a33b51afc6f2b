"""A game's bytes, read field by field to the first fault."""

from endsolver.model import Game, Kind, Pattern, Piece, count_numbers
from endsolver.refusals import Fault, TooLarge

MOST_NUMBERS = 2048


class ByteReader:
    """Reads fields one behind another; a field that is not as it must be is a fault at its first byte."""

    def __init__(self, numbers):
        self.numbers = numbers
        self.place = 0

    def need(self, length):
        """A field that the bytes end in is a fault where they end, whatever there is of it."""
        if self.place + length > len(self.numbers):
            raise Fault(len(self.numbers))

    def byte(self, least, most):
        """A byte of this range."""
        self.need(1)
        number = self.numbers[self.place]
        if number < least or number > most:
            raise Fault(self.place)
        self.place = self.place + 1
        return number

    def step(self, may_be_zero):
        """A signed byte from -7 to 7."""
        self.need(1)
        number = self.numbers[self.place]
        if number > 127:
            number = number - 256
        if abs(number) > 7 or (number == 0 and not may_be_zero):
            raise Fault(self.place)
        self.place = self.place + 1
        return number

    def square_set(self):
        """Eight bytes, the lowest first, as one whole number."""
        self.need(8)
        squares = 0
        for offset in range(8):
            squares = squares | (self.numbers[self.place + offset] << (8 * offset))
        self.place = self.place + 8
        return squares

    def finish(self):
        """Bytes left over are a fault where they begin."""
        if self.place < len(self.numbers):
            raise Fault(self.place)


def read_game(numbers):
    """The game that these bytes tell, or a refusal."""
    reader = ByteReader(numbers)
    piece_count = reader.byte(1, 6)
    kind_count = reader.byte(1, 8)
    stuck = reader.byte(0, 2)
    passing = reader.byte(0, 1)
    board = read_board(reader)
    kinds = []
    while len(kinds) < kind_count:
        kinds.append(read_kind(reader, board))
    pieces = []
    while len(pieces) < piece_count:
        pieces.append(read_piece(reader, kind_count))
    reader.finish()
    if count_numbers(board, pieces) > MOST_NUMBERS:
        raise TooLarge()
    return Game(stuck, passing, board, kinds, pieces)


def read_board(reader):
    """The board, which has a square at least."""
    place = reader.place
    board = reader.square_set()
    if board == 0:
        raise Fault(place)
    return board


def read_kind(reader, board):
    """A kind: its patterns stand behind its goals, but their count ahead of them."""
    royal = reader.byte(0, 1)
    pattern_count = reader.byte(0, 16)
    goals = read_goals(reader, board)
    patterns = []
    while len(patterns) < pattern_count:
        patterns.append(read_pattern(reader))
    return Kind(royal, goals, patterns)


def read_goals(reader, board):
    """A kind's goals, which are squares of the board alone."""
    place = reader.place
    goals = reader.square_set()
    if goals & board != goals:
        raise Fault(place)
    return goals


def read_pattern(reader):
    """A pattern, which leads away from where the piece stands."""
    df = reader.step(True)
    dr = reader.step(df != 0)
    reach = reader.byte(1, 7)
    how = reader.byte(1, 3)
    return Pattern(df, dr, reach, how)


def read_piece(reader, kind_count):
    """A piece of one of the kinds."""
    kind = reader.byte(0, kind_count - 1)
    side = reader.byte(0, 1)
    return Piece(kind, side)

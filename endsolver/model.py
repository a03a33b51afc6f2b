"""What a game is made of. A set of squares is one whole number: bit s stands for square s."""

OFF = 64


class Pattern:
    """A direction in which a kind moves, how far, and whether to empty squares (1), to take (2) or both (3)."""

    def __init__(self, df, dr, reach, how):
        self.df = df
        self.dr = dr
        self.reach = reach
        self.how = how


class Kind:
    """A kind of pieces."""

    def __init__(self, royal, goals, patterns):
        self.royal = royal
        self.goals = goals
        self.patterns = patterns


class Piece:
    """A piece: the number of its kind, and its side."""

    def __init__(self, kind, side):
        self.kind = kind
        self.side = side


class Way:
    """The squares of the board along a pattern from one square, as if no piece stood there."""

    def __init__(self, how, squares):
        self.how = how
        self.squares = squares


class Game:
    """A game, with what follows from its board alone and is asked for at every position."""

    def __init__(self, stuck, passing, board, kinds, pieces):
        self.stuck = stuck
        self.passing = passing
        self.board = board
        self.kinds = kinds
        self.pieces = pieces
        self.squares = squares_of(board)
        self.places = places_of(self.squares)
        self.total = count_numbers(board, pieces)
        self.ways = [ways_of_kind(board, self.squares, kind) for kind in kinds]


def has_square(squares, square):
    """Whether a set of squares has this one; it never has OFF."""
    return (squares >> square) & 1 == 1


def squares_of(board):
    """The board's squares, the lowest first."""
    return [square for square in range(64) if has_square(board, square)]


def places_of(squares):
    """For each of the board's squares how many of them lie below it; for OFF how many there are."""
    places = {}
    for place, square in enumerate(squares):
        places[square] = place
    places[OFF] = len(squares)
    return places


def count_numbers(board, pieces):
    """How many numbers the positions have: N."""
    places = len(squares_of(board)) + 1
    total = 2
    for piece in pieces:
        total = total * places
    return total


def ways_of_kind(board, squares, kind):
    """For each of the board's squares the ways of a piece of this kind that stands there, by pattern."""
    ways = {}
    for square in squares:
        ways[square] = [Way(pattern.how, squares_along(board, square, pattern)) for pattern in kind.patterns]
    return ways


def squares_along(board, square, pattern):
    """The squares along a pattern, from the nearest on, up to its reach or to what is not of the board."""
    found = []
    file = square % 8 + pattern.df
    rank = square // 8 + pattern.dr
    while len(found) < pattern.reach and is_on_board(board, file, rank):
        found.append(8 * rank + file)
        file = file + pattern.df
        rank = rank + pattern.dr
    return found


def is_on_board(board, file, rank):
    """Whether there is such a file and rank, and the board has their square."""
    return 0 <= file <= 7 and 0 <= rank <= 7 and has_square(board, 8 * rank + file)

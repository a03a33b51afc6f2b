"""Moves, the positions after them, and the ends. A move is 256 times the piece, and its new square."""

from endsolver.model import OFF, has_square

PASS = 65535
DRAW = 0
WIN = 1
LOSS = 2

# By the game's stuck: what it is for a side that has no moves.
STUCK_OUTCOMES = (2, 0, 1)


def has_lost(game, row, side):
    """Whether a royal piece of the side is off, or a piece of the other side stands on a goal of its kind."""
    for number, piece in enumerate(game.pieces):
        kind = game.kinds[piece.kind]
        if piece.side == side:
            if kind.royal == 1 and row[number] == OFF:
                return True
        elif has_square(kind.goals, row[number]):
            return True
    return False


def holders_of(game, row):
    """For each square with a piece the side of that piece."""
    holders = {}
    for number, piece in enumerate(game.pieces):
        if row[number] != OFF:
            holders[row[number]] = piece.side
    return holders


def targets_of(ways, holders, side):
    """The squares that a piece of the side may come to by these ways, each once."""
    targets = {}
    for way in ways:
        for square in way.squares:
            holder = holders.get(square)
            if holder is None:
                if way.how & 1 == 1:
                    targets[square] = True
            else:
                if holder != side and way.how & 2 == 2:
                    targets[square] = True
                break
    return list(targets)


def moves_of(game, row):
    """The moves of a right position, in order."""
    if has_lost(game, row, 0) or has_lost(game, row, 1):
        return []
    side = row[-1]
    holders = holders_of(game, row)
    moves = []
    for number, piece in enumerate(game.pieces):
        if piece.side == side and row[number] != OFF:
            ways = game.ways[piece.kind][row[number]]
            for square in targets_of(ways, holders, side):
                moves.append(256 * number + square)
    if game.passing == 1:
        moves.append(PASS)
    return moves


def row_after(row, move):
    """The position after a move."""
    after = row[:-1]
    if move != PASS:
        target = move % 256
        after = [OFF if square == target else square for square in after]
        after[move // 256] = target
    after.append(1 - row[-1])
    return after


def end_outcome(game, row):
    """What a position without moves, which so is at its end, is for the side that is to move."""
    side = row[-1]
    mine_lost = has_lost(game, row, side)
    other_lost = has_lost(game, row, 1 - side)
    if mine_lost and other_lost:
        return DRAW
    if mine_lost:
        return LOSS
    if other_lost:
        return WIN
    return STUCK_OUTCOMES[game.stuck]

"""Best moves of a solved game, and the lines they make."""

from endsolver.moving import DRAW, LOSS, WIN, moves_of, row_after
from endsolver.refusals import AtEnd, Drawn
from endsolver.solving import value_of


def best_move(solving, row):
    """The first move that keeps what the position's value promises."""
    moves = moves_of(solving.game, row)
    if len(moves) == 0:
        raise AtEnd()
    wanted = value_to_reach(value_of(solving, row))
    keeping = [move for move in moves if value_of(solving, row_after(row, move)) == wanted]
    return keeping[0]


def value_to_reach(value):
    """The value, for the other side, of the position that a best move leads to."""
    if value[0] == WIN:
        return (LOSS, value[1] - 1)
    if value[0] == LOSS:
        return (WIN, value[1] - 1)
    return (DRAW, 0)


def best_line(solving, row):
    """Best moves one after another to the end."""
    value = value_of(solving, row)
    if value[0] == DRAW:
        raise Drawn()
    line = []
    current = row
    while len(line) < value[1]:
        move = best_move(solving, current)
        line.append(move)
        current = row_after(current, move)
    return line

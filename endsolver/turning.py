"""Turns of the board: 4 lets files and ranks change places, then 1 mirrors the files and 2 the ranks."""

from endsolver.model import OFF, squares_of
from endsolver.positions import number_of

TURN_COUNT = 8
LAST = 7


def turned_pair(turn, file, rank, edge):
    """A file and a rank as the turn carries them, where mirrored ones add up to the edge."""
    if turn & 4 == 4:
        return mirrored_pair(turn, rank, file, edge)
    return mirrored_pair(turn, file, rank, edge)


def mirrored_pair(turn, file, rank, edge):
    """The same, of what has changed places already."""
    if turn & 1 == 1:
        file = edge - file
    if turn & 2 == 2:
        rank = edge - rank
    return (file, rank)


def turned_square(turn, square):
    """Where a turn carries a square; what is off stays off."""
    if square == OFF:
        return OFF
    pair = turned_pair(turn, square % 8, square // 8, LAST)
    return 8 * pair[1] + pair[0]


def turned_set(turn, squares):
    """Where a turn carries a set of squares."""
    turned = 0
    for square in squares_of(squares):
        turned = turned | (1 << turned_square(turn, square))
    return turned


def turned_patterns(turn, patterns):
    """What a turn makes of patterns, as keys, so that neither order nor telling one twice counts."""
    turned = {}
    for pattern in patterns:
        pair = turned_pair(turn, pattern.df, pattern.dr, 0)
        turned[(pair[0], pair[1], pattern.reach, pattern.how)] = True
    return turned


def turned_row(turn, row):
    """The position to which a turn carries a position; the side that is to move stays."""
    return [turned_square(turn, square) for square in row[:-1]] + [row[-1]]


def keeps_kind(turn, kind):
    """Whether a turn carries a kind's goals to its goals, and its patterns to its patterns."""
    if turned_set(turn, kind.goals) != kind.goals:
        return False
    return turned_patterns(turn, kind.patterns) == turned_patterns(0, kind.patterns)


def keeps_game(turn, game):
    """Whether a turn carries the board to the board, and keeps every kind."""
    if turned_set(turn, game.board) != game.board:
        return False
    for kind in game.kinds:
        if not keeps_kind(turn, kind):
            return False
    return True


def keeping_turns(game):
    """The turns that keep the game, the least first."""
    return [turn for turn in range(TURN_COUNT) if keeps_game(turn, game)]


def turns_sum(game):
    """The turns that keep the game, as bits."""
    return sum([1 << turn for turn in keeping_turns(game)])


def least_turn(game, row):
    """The least of the turns that carry a position to the least number."""
    least = 0
    least_number = number_of(game, row)
    for turn in keeping_turns(game):
        number = number_of(game, turned_row(turn, row))
        if number < least_number:
            least = turn
            least_number = number
    return least

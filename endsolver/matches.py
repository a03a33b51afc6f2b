"""Matches: one side makes best moves, the other those that are handed over."""

from endsolver.lines import best_move
from endsolver.moving import DRAW, LOSS, WIN, end_outcome, moves_of, row_after

NO_REPLY = 3


class Match:
    """A match of a side: where it stands, how many moves were made, and how many of them the other side's."""

    def __init__(self, side, row, replies):
        self.side = side
        self.row = row
        self.replies = replies
        self.made = 0
        self.replied = 0
        self.result = DRAW


def play_match(solving, played, most):
    """Makes moves, at most so many, and sees what the match comes to."""
    game = solving.game
    moves = moves_of(game, played.row)
    while len(moves) > 0 and played.made < most:
        move = best_move(solving, played.row) if played.row[-1] == played.side else take_reply(played, moves)
        if move is None:
            played.result = NO_REPLY
            return
        played.row = row_after(played.row, move)
        played.made = played.made + 1
        moves = moves_of(game, played.row)
    if len(moves) == 0:
        played.result = result_at_end(game, played)


def take_reply(played, moves):
    """The other side's next move; None if there is none left, or it is no move."""
    if played.replied == len(played.replies):
        return None
    move = played.replies[played.replied]
    played.replied = played.replied + 1
    return move if move in moves else None


def result_at_end(game, played):
    """What the end that was reached is for the side whose match it is."""
    outcome = end_outcome(game, played.row)
    if outcome == DRAW or played.row[-1] == played.side:
        return outcome
    return LOSS if outcome == WIN else WIN

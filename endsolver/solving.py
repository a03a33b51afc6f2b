"""The values of a game's positions, worked out from the ends backwards, round by round."""

from endsolver.moving import DRAW, LOSS, WIN, end_outcome, moves_of, row_after
from endsolver.positions import number_of, right_numbers, row_of
from endsolver.refusals import NotKnown, NotSolved


class Solving:
    """A game and what is known of it.

    known: by number an outcome and in how many moves, of wins and losses alone.
    leads: by number where the moves lead, of positions that are not at their end and not known.
    """

    def __init__(self, game):
        self.game = game
        self.known = {}
        self.leads = {}
        self.rounds = 0
        self.solved = False


def do_rounds(solving, most):
    """So many rounds more, but none once the game is solved."""
    done = 0
    while done < most and not solving.solved:
        do_round(solving)
        done = done + 1


def do_round(solving):
    """The round after r others: it finds the wins and losses in r moves."""
    if solving.rounds == 0:
        found = find_ends(solving)
    else:
        found = find_by_leads(solving)
    for number, outcome in found.items():
        solving.known[number] = (outcome, solving.rounds)
    solving.rounds = solving.rounds + 1
    solving.solved = len(found) == 0


def find_ends(solving):
    """The wins and losses at their end; where the others lead is kept for the rounds to come."""
    game = solving.game
    found = {}
    for number in right_numbers(game):
        row = row_of(game, number)
        moves = moves_of(game, row)
        outcome = end_outcome(game, row) if len(moves) == 0 else DRAW
        if outcome != DRAW:
            found[number] = outcome
        elif len(moves) > 0:
            solving.leads[number] = [number_of(game, row_after(row, move)) for move in moves]
    return found


def find_by_leads(solving):
    """The wins and losses that follow from what was known before this round."""
    found = {}
    for number in list(solving.leads):
        outcome = outcome_by_leads(solving.known, solving.leads[number])
        if outcome != DRAW:
            found[number] = outcome
            solving.leads.pop(number)
    return found


def outcome_by_leads(known, leads):
    """A win if a move leads to a known loss, a loss if all lead to known wins, else no more than a draw yet."""
    outcome = LOSS
    for lead in leads:
        if lead not in known:
            outcome = DRAW
        elif known[lead][0] == LOSS:
            return WIN
    return outcome


def value_of(solving, row):
    """The outcome of a right position and in how many moves, if it is known."""
    return value_at(solving, number_of(solving.game, row))


def value_at(solving, number):
    """The same of the right position that has this number."""
    if number in solving.known:
        return solving.known[number]
    if not solving.solved:
        raise NotKnown()
    return (DRAW, 0)


def check_solved(solving):
    """Refuses what is told of a solved game alone."""
    if not solving.solved:
        raise NotSolved()

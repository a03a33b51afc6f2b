"""The calls: each is read from the list, answered, and its answer put behind those before it."""

from endsolver.finding import first_with, longest_of, numbers_with
from endsolver.lines import best_line, best_move
from endsolver.matches import Match, play_match
from endsolver.moving import DRAW, LOSS, WIN, moves_of, row_after
from endsolver.positions import check_right, number_of, right_row_of
from endsolver.reading import read_game
from endsolver.refusals import NoGame, NoMove, NoOutcome, NoSide, Refusal
from endsolver.solving import Solving, check_solved, do_rounds, value_of
from endsolver.tables import first_wrong, table_of
from endsolver.turning import least_turn, turned_row, turns_sum

GAME = 1

# By a call's number: how many whole numbers it has, and how many rows behind them.
CALL_FORMS = {
    1: (0, 1),
    2: (1, 0),
    3: (0, 1),
    4: (1, 0),
    5: (0, 1),
    6: (0, 1),
    7: (1, 1),
    8: (0, 1),
    9: (0, 1),
    10: (2, 0),
    11: (3, 0),
    12: (1, 0),
    13: (0, 0),
    14: (0, 1),
    15: (0, 0),
    16: (0, 1),
    17: (2, 2),
}


class Call:
    """A call: its number, its whole numbers and its rows."""

    def __init__(self, number, numbers, rows):
        self.number = number
        self.numbers = numbers
        self.rows = rows


class CallReader:
    """Reads a list of calls, one behind another."""

    def __init__(self, calls):
        self.calls = calls
        self.place = 0

    def at_end(self):
        """Whether no call is left."""
        return self.place == len(self.calls)

    def take(self, length):
        """The next so many numbers, as a list of their own."""
        start = self.place
        self.place = start + length
        return self.calls[start:start + length]

    def take_call(self):
        """The next call."""
        number = self.take(1)[0]
        form = CALL_FORMS[number]
        numbers = self.take(form[0])
        rows = []
        while len(rows) < form[1]:
            rows.append(self.take(self.take(1)[0]))
        return Call(number, numbers, rows)


class Desk:
    """What the calls of one list are made on: the game, as far as it is solved, or None."""

    def __init__(self):
        self.solving = None


def tell_game(desk, call):
    """Takes a game, of which nothing is solved then."""
    desk.solving = Solving(read_game(call.rows[0]))
    return []


def tell_solve(desk, call):
    """Does rounds, and tells whether there is more to do."""
    do_rounds(desk.solving, call.numbers[0])
    return [0 if desk.solving.solved else 1]


def tell_index(desk, call):
    """The number of a position."""
    row = right_row(desk, call)
    return [number_of(desk.solving.game, row)]


def tell_pos(desk, call):
    """The position of a number."""
    return counted(right_row_of(desk.solving.game, call.numbers[0]))


def tell_value(desk, call):
    """The value of a position."""
    row = right_row(desk, call)
    return list(value_of(desk.solving, row))


def tell_moves(desk, call):
    """The moves of a position."""
    row = right_row(desk, call)
    return counted(moves_of(desk.solving.game, row))


def tell_play(desk, call):
    """The position after a move."""
    row = right_row(desk, call)
    move = call.numbers[0]
    if move not in moves_of(desk.solving.game, row):
        raise NoMove()
    return counted(row_after(row, move))


def tell_best(desk, call):
    """The outcome of a position, and its best move."""
    row = right_row(desk, call)
    check_solved(desk.solving)
    move = best_move(desk.solving, row)
    return [value_of(desk.solving, row)[0], move]


def tell_line(desk, call):
    """The best moves of a position to its end."""
    row = right_row(desk, call)
    check_solved(desk.solving)
    return counted(best_line(desk.solving, row))


def tell_many(desk, call):
    """How many positions have a value."""
    check_outcome(call.numbers[0], (DRAW, WIN, LOSS))
    check_solved(desk.solving)
    return [len(numbers_with(desk.solving, call.numbers[0], call.numbers[1]))]


def tell_next(desk, call):
    """The first position from a number on that has a value."""
    check_outcome(call.numbers[1], (DRAW, WIN, LOSS))
    check_solved(desk.solving)
    return [first_with(desk.solving, call.numbers[0], call.numbers[1], call.numbers[2])]


def tell_longest(desk, call):
    """In how many moves the longest win or loss is."""
    check_outcome(call.numbers[0], (WIN, LOSS))
    check_solved(desk.solving)
    return [longest_of(desk.solving, call.numbers[0])]


def tell_turns(desk, call):
    """The turns that keep the game."""
    return [turns_sum(desk.solving.game)]


def tell_least(desk, call):
    """The turn that carries a position to the least number, and where to."""
    row = right_row(desk, call)
    turn = least_turn(desk.solving.game, row)
    return [turn] + counted(turned_row(turn, row))


def tell_table(desk, call):
    """The game's table."""
    check_solved(desk.solving)
    return counted(table_of(desk.solving))


def tell_judge(desk, call):
    """Whether a table is the game's, or where it is wrong first."""
    check_solved(desk.solving)
    wrong = first_wrong(desk.solving, call.rows[0])
    return [0] if wrong is None else [1, wrong]


def tell_match(desk, call):
    """What a match comes to, how many moves were made, and its last position."""
    row = right_row(desk, call)
    if call.numbers[0] > 1:
        raise NoSide()
    check_solved(desk.solving)
    played = Match(call.numbers[0], row, call.rows[1])
    play_match(desk.solving, played, call.numbers[1])
    return [played.result, played.made] + counted(played.row)


TELLERS = {
    1: tell_game,
    2: tell_solve,
    3: tell_index,
    4: tell_pos,
    5: tell_value,
    6: tell_moves,
    7: tell_play,
    8: tell_best,
    9: tell_line,
    10: tell_many,
    11: tell_next,
    12: tell_longest,
    13: tell_turns,
    14: tell_least,
    15: tell_table,
    16: tell_judge,
    17: tell_match,
}


def right_row(desk, call):
    """The position that a call has, or a refusal."""
    row = call.rows[0]
    check_right(desk.solving.game, row)
    return row


def check_outcome(outcome, outcomes):
    """Refuses what is none of the outcomes that may be asked for."""
    if outcome not in outcomes:
        raise NoOutcome()


def counted(row):
    """A row behind how many numbers it has."""
    return [len(row)] + row


def answer_of(desk, call):
    """What a call gives back: a refusal's numbers, or 0 and what is told."""
    try:
        if desk.solving is None and call.number != GAME:
            raise NoGame()
        teller = TELLERS[call.number]
        told = teller(desk, call)
    except Refusal as refusal:
        return refusal.answer
    return [0] + told


def answers(calls):
    """For each call of the list, in order, how many numbers are answered, and these."""
    reader = CallReader(calls)
    desk = Desk()
    given = []
    while not reader.at_end():
        given.extend(counted(answer_of(desk, reader.take_call())))
    return given

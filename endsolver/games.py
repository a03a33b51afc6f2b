"""The calls: each is read from the list, answered, and its answer put behind those before it."""

from endsolver.lines import best_line, best_move
from endsolver.moving import moves_of, row_after
from endsolver.positions import check_right, number_of, right_row_of
from endsolver.reading import read_game
from endsolver.refusals import NoGame, NoMove, Refusal
from endsolver.solving import Solving, check_solved, do_rounds, value_of

GAME = 1

# By a call's number: how many whole numbers it has, and how many rows behind them.
CALL_FORMS = {
    1: (0, 1),
    2: (1, 0),
    3: (0, 1),
    4: (1, 0),
    5: (0, 1),
    6: (0, 1),
    7: (1, 1),
    8: (0, 1),
    9: (0, 1),
}


class Call:
    """A call: its number, its whole numbers and its rows."""

    def __init__(self, number, numbers, rows):
        self.number = number
        self.numbers = numbers
        self.rows = rows


class CallReader:
    """Reads a list of calls, one behind another."""

    def __init__(self, calls):
        self.calls = calls
        self.place = 0

    def at_end(self):
        """Whether no call is left."""
        return self.place == len(self.calls)

    def take(self, length):
        """The next so many numbers, as a list of their own."""
        start = self.place
        self.place = start + length
        return self.calls[start:start + length]

    def take_call(self):
        """The next call."""
        number = self.take(1)[0]
        form = CALL_FORMS[number]
        numbers = self.take(form[0])
        rows = []
        while len(rows) < form[1]:
            rows.append(self.take(self.take(1)[0]))
        return Call(number, numbers, rows)


class Desk:
    """What the calls of one list are made on: the game, as far as it is solved, or None."""

    def __init__(self):
        self.solving = None


def tell_game(desk, call):
    """Takes a game, of which nothing is solved then."""
    desk.solving = Solving(read_game(call.rows[0]))
    return []


def tell_solve(desk, call):
    """Does rounds, and tells whether there is more to do."""
    do_rounds(desk.solving, call.numbers[0])
    return [0 if desk.solving.solved else 1]


def tell_index(desk, call):
    """The number of a position."""
    row = right_row(desk, call)
    return [number_of(desk.solving.game, row)]


def tell_pos(desk, call):
    """The position of a number."""
    return counted(right_row_of(desk.solving.game, call.numbers[0]))


def tell_value(desk, call):
    """The value of a position."""
    row = right_row(desk, call)
    return list(value_of(desk.solving, row))


def tell_moves(desk, call):
    """The moves of a position."""
    row = right_row(desk, call)
    return counted(moves_of(desk.solving.game, row))


def tell_play(desk, call):
    """The position after a move."""
    row = right_row(desk, call)
    move = call.numbers[0]
    if move not in moves_of(desk.solving.game, row):
        raise NoMove()
    return counted(row_after(row, move))


def tell_best(desk, call):
    """The outcome of a position, and its best move."""
    row = right_row(desk, call)
    check_solved(desk.solving)
    move = best_move(desk.solving, row)
    return [value_of(desk.solving, row)[0], move]


def tell_line(desk, call):
    """The best moves of a position to its end."""
    row = right_row(desk, call)
    check_solved(desk.solving)
    return counted(best_line(desk.solving, row))


TELLERS = {
    1: tell_game,
    2: tell_solve,
    3: tell_index,
    4: tell_pos,
    5: tell_value,
    6: tell_moves,
    7: tell_play,
    8: tell_best,
    9: tell_line,
}


def right_row(desk, call):
    """The position that a call has, or a refusal."""
    row = call.rows[0]
    check_right(desk.solving.game, row)
    return row


def counted(row):
    """A row behind how many numbers it has."""
    return [len(row)] + row


def answer_of(desk, call):
    """What a call gives back: a refusal's numbers, or 0 and what is told."""
    try:
        if desk.solving is None and call.number != GAME:
            raise NoGame()
        teller = TELLERS[call.number]
        told = teller(desk, call)
    except Refusal as refusal:
        return refusal.answer
    return [0] + told


def answers(calls):
    """For each call of the list, in order, how many numbers are answered, and these."""
    reader = CallReader(calls)
    desk = Desk()
    given = []
    while not reader.at_end():
        given.extend(counted(answer_of(desk, reader.take_call())))
    return given

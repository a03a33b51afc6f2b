"""Positions and their numbers. A position is a row: each piece's square or OFF, then the side that is to move."""

from endsolver.model import OFF
from endsolver.refusals import NotRight


def is_right(game, row):
    """Whether the row is a position, all that stand are on the board, and no two on one square."""
    if len(row) != len(game.pieces) + 1 or row[-1] > 1:
        return False
    standing = [square for square in row[:-1] if square != OFF]
    for square in standing:
        if square not in game.places:
            return False
    return len(set(standing)) == len(standing)


def check_right(game, row):
    """Refuses a row that is no right position."""
    if not is_right(game, row):
        raise NotRight()


def number_of(game, row):
    """The number of a position."""
    number = row[-1]
    weight = 2
    for square in row[:-1]:
        number = number + weight * game.places[square]
        weight = weight * len(game.places)
    return number


def row_of(game, number):
    """The position of a number below N, right or not."""
    row = []
    rest = number // 2
    while len(row) < len(game.pieces):
        place = rest % len(game.places)
        row.append(OFF if place == len(game.squares) else game.squares[place])
        rest = rest // len(game.places)
    row.append(number % 2)
    return row


def right_row_of(game, number):
    """The right position of a number, or a refusal."""
    if number >= game.total:
        raise NotRight()
    row = row_of(game, number)
    check_right(game, row)
    return row


def right_numbers(game):
    """The numbers of all right positions, the least first."""
    return [number for number in range(game.total) if is_right(game, row_of(game, number))]

"""The positions of a solved game by their value: how many, the first, the longest."""

from endsolver.moving import DRAW
from endsolver.positions import right_numbers
from endsolver.refusals import NotFound
from endsolver.solving import value_at


def numbers_with(solving, outcome, count):
    """The numbers of the right positions with this value, the least first."""
    # Draws are in no count of moves, whatever count was handed in.
    wanted = (outcome, 0 if outcome == DRAW else count)
    return [number for number in right_numbers(solving.game) if value_at(solving, number) == wanted]


def first_with(solving, start, outcome, count):
    """The least number from start on of a right position with this value."""
    for number in numbers_with(solving, outcome, count):
        if number >= start:
            return number
    raise NotFound()


def longest_of(solving, outcome):
    """The greatest count that a win or a loss has."""
    counts = [value[1] for value in solving.known.values() if value[0] == outcome]
    if len(counts) == 0:
        raise NotFound()
    return max(counts)

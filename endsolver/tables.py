"""The table of a solved game: for each number an outcome in two bits, four in a byte, the lowest first."""

from endsolver.positions import right_numbers
from endsolver.refusals import OtherLength
from endsolver.solving import value_at

NO_POSITION = 3
PER_BYTE = 4


def table_of(solving):
    """The table's bytes."""
    codes = codes_of(solving)
    table = [0] * ((len(codes) + PER_BYTE - 1) // PER_BYTE)
    for number, code in enumerate(codes):
        place = number // PER_BYTE
        table[place] = table[place] | (code << shift_of(number))
    return table


def codes_of(solving):
    """For each number the outcome of its position, or that it is of no right one."""
    codes = [NO_POSITION] * solving.game.total
    for number in right_numbers(solving.game):
        codes[number] = value_at(solving, number)[0]
    return codes


def shift_of(number):
    """How many bits stand below a number's own in its byte."""
    return 2 * (number % PER_BYTE)


def code_in(table, number):
    """What a table tells of a number."""
    return (table[number // PER_BYTE] >> shift_of(number)) & 3


def first_wrong(solving, table):
    """The first number that a table tells wrong, N if only bits past the last are; None if it is right."""
    right = table_of(solving)
    if len(table) != len(right):
        raise OtherLength()
    for number in range(PER_BYTE * len(right)):
        if code_in(table, number) != code_in(right, number):
            return min(number, solving.game.total)
    return None

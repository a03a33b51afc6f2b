"""The call game: its fields, their ranges, the place of a fault, and what a refused game leaves."""

from tests.helper import (
    GameTest, Numbers, OFF, area, ask, game, game_bytes, index, kind, king, made_up_games, pos, rook, solve,
    squares_bytes, take, value,
)

NINE = area(3, 3)
KINDS = [kind([(1, -1, 2, 3)], 1, [0, 9]), kind([], 0, [])]
BASE = game_bytes(game(NINE, KINDS, [(0, 0), (1, 1)], 1, 1))

# Where the fields of BASE begin.
PIECES, KIND_COUNT, STUCK, PASSING, BOARD = 0, 1, 2, 3, 4
ROYAL, PATTERNS, GOALS, DF, DR, REACH, HOW = 12, 13, 14, 22, 23, 24, 25
ROYAL_1, PATTERNS_1, GOALS_1 = 26, 27, 28
KIND_OF_0, SIDE_OF_0, KIND_OF_1, SIDE_OF_1 = 36, 37, 38, 39


class Wrong(Exception):
    """A place of a fault."""


class Fields:
    """The document's fields, gone through a second time."""

    def __init__(self, told):
        self.rest = list(told)
        self.length = len(told)

    def field(self, length, right):
        part, place = self.rest[:length], self.length - len(self.rest)
        if len(part) < length:
            raise Wrong(self.length)
        if not right(part):
            raise Wrong(place)
        self.rest = self.rest[length:]
        return part

    def byte(self, allowed):
        return self.field(1, lambda part: part[0] in allowed)[0]

    def game(self):
        pieces, kinds = self.byte(range(1, 7)), self.byte(range(1, 9))
        self.byte(range(3))
        self.byte(range(2))
        board = self.field(8, any)
        for turn in range(kinds):
            self.kind(board)
        for turn in range(pieces):
            self.byte(range(kinds))
            self.byte(range(2))
        if self.rest:
            raise Wrong(self.length - len(self.rest))
        return 2 * (1 + sum(bin(part).count("1") for part in board)) ** pieces

    def kind(self, board):
        self.byte(range(2))
        patterns = self.byte(range(17))
        self.field(8, lambda part: all(one | two == two for one, two in zip(part, board)))
        steps = list(range(8)) + list(range(249, 256))
        for turn in range(patterns):
            df = self.byte(steps)
            self.byte(steps if df else steps[1:])
            self.byte(range(1, 8))
            self.byte(range(1, 4))


def wanted_answer(told):
    """What game answers, by the fields above."""
    try:
        count = Fields(told).game()
    except Wrong as wrong:
        return [-1, wrong.args[0]]
    return [0] if count <= 2048 else [-2]


def changed(place, byte, told=BASE):
    """The bytes with one of them another."""
    return told[:place] + [byte] + told[place + 1:]


class FieldTest(GameTest):
    def check_byte(self, place, right, told=BASE):
        """Just these bytes are right at this place; all others are a fault there."""
        for byte in range(256):
            wanted = [0] if byte in right else [-1, place]
            self.assertEqual(ask(take(changed(place, byte, told))), [wanted], (place, byte))

    def test_base_is_right(self):
        self.assertEqual(len(BASE), 40)
        self.check([take(BASE)], [[0]])

    def test_fields_of_one_byte(self):
        self.check_byte(STUCK, range(3))
        self.check_byte(PASSING, range(2))
        self.check_byte(ROYAL, range(2))
        self.check_byte(ROYAL_1, range(2))
        self.check_byte(REACH, range(1, 8))
        self.check_byte(HOW, range(1, 4))
        self.check_byte(KIND_OF_0, range(2))
        self.check_byte(KIND_OF_1, range(2))
        self.check_byte(SIDE_OF_0, range(2))
        self.check_byte(SIDE_OF_1, range(2))

    def test_steps_are_signed(self):
        steps = list(range(8)) + list(range(249, 256))
        self.check_byte(DF, steps)
        self.check_byte(DR, steps)

    def test_df_and_dr_both_zero_is_a_fault_of_dr(self):
        told = changed(DF, 0)
        self.check_byte(DR, list(range(1, 8)) + list(range(249, 256)), told)

    def test_number_of_pieces(self):
        for count in range(1, 7):
            told = game([0, 1], [kind()], [(0, 0)] * count)
            self.check([take(told)], [[0]])
            for place in (12 + 10 + 2 * count - 1, 12 + 10 + 2 * count - 2):
                self.check([take(game_bytes(told)[:place])], [[-1, place]])
        for byte in [0] + list(range(7, 256)):
            self.check([take(changed(PIECES, byte))], [[-1, PIECES]])

    def test_number_of_kinds(self):
        for count in range(1, 9):
            self.check([take(game(NINE, [kind()] * count, [(count - 1, 0)]))], [[0]])
            self.check([take(game(NINE, [kind()] * count, [(count, 0)]))], [[-1, 12 + 10 * count]])
        for byte in [0] + list(range(9, 256)):
            self.check([take(changed(KIND_COUNT, byte))], [[-1, KIND_COUNT]])

    def test_number_of_patterns(self):
        for count in range(17):
            told = game_bytes(game(NINE, [kind([(1, 0, 1, 1)] * count)], [(0, 0)]))
            self.check([take(told)], [[0]])
            self.check([take(told + [0])], [[-1, 24 + 4 * count]])
        for byte in range(17, 256):
            self.check([take(changed(PATTERNS, byte))], [[-1, PATTERNS]])
            self.check([take(changed(PATTERNS_1, byte))], [[-1, PATTERNS_1]])

    def test_seventeen_patterns_are_too_many_even_if_told(self):
        told = game_bytes(game(NINE, [kind([(1, 0, 1, 1)] * 17)], [(0, 0)]))
        self.check([take(told)], [[-1, 13]])

    def test_board_is_not_empty(self):
        told = game_bytes(game([], [kind()], [(0, 0)]))
        self.check([take(told)], [[-1, BOARD]])
        for square in range(64):
            told = game_bytes(game([square], [kind([], 1, [square])], [(0, 0)]))
            self.check([take(told), pos(0)], [[0], [0, 2, square, 0]])

    def test_goals_off_the_board(self):
        for square in range(64):
            wanted = [0] if square in NINE else [-1, GOALS]
            told = game(NINE, [kind([], 0, [0, square]), kind()], [(0, 0)])
            self.check([take(told)], [wanted])
            wanted = [0] if square in NINE else [-1, 24]
            told = game(NINE, [kind(), kind([], 0, [square])], [(0, 0)])
            self.check([take(told)], [wanted])


class EndOfBytesTest(GameTest):
    def test_bytes_that_end_too_early(self):
        for length in range(len(BASE)):
            self.check([take(BASE[:length])], [[-1, length]])

    def test_a_fault_comes_before_the_end_of_too_few_bytes(self):
        for place in (PIECES, KIND_COUNT, STUCK, PASSING, ROYAL, PATTERNS, DF, REACH, HOW, KIND_OF_0, SIDE_OF_1):
            told = changed(place, 99)
            for length in range(len(BASE) + 1):
                self.check([take(told[:length])], [[-1, min(place, length)]])

    def test_a_field_that_is_cut_is_no_fault_of_its_own(self):
        cut_board = BASE[:BOARD] + [0] * 7
        self.check([take(cut_board)], [[-1, BOARD + 7]])
        self.check([take(cut_board + [0])], [[-1, BOARD]])
        cut_goals = BASE[:GOALS] + [255] * 7
        self.check([take(cut_goals)], [[-1, GOALS + 7]])
        self.check([take(cut_goals + [255])], [[-1, GOALS]])

    def test_bytes_left_over(self):
        for count in (1, 2, 110):
            self.check([take(BASE + [0] * count)], [[-1, len(BASE)]])

    def test_the_first_of_several_faults(self):
        places = [PIECES, KIND_COUNT, STUCK, PASSING, ROYAL, PATTERNS, DF, DR, REACH, HOW, ROYAL_1, PATTERNS_1,
                  KIND_OF_0, SIDE_OF_0, KIND_OF_1, SIDE_OF_1]
        for first in range(len(places)):
            told = BASE + [1]
            for place in places[first:]:
                told = changed(place, 200, told)
            self.check([take(told)], [[-1, places[first]]])

    def test_a_fault_comes_before_too_many_numbers(self):
        told = game_bytes(game(range(64), [king()], [(0, 0)] * 6))
        self.check([take(told)], [[-2]])
        self.check([take(told + [0])], [[-1, len(told)]])
        self.check([take(told[:-1])], [[-1, len(told) - 1]])
        self.check([take(changed(len(told) - 1, 2, told))], [[-1, len(told) - 1]])


class AnyBytesTest(GameTest):
    """Promise 6: any bytes may be handed in as a game."""

    def test_all_the_same_byte(self):
        for byte in range(256):
            for length in (1, 11, 12, 40, 150):
                told = [byte] * length
                self.check([take(told)], [wanted_answer(told)])

    def test_right_games_with_some_bytes_changed(self):
        numbers = Numbers(3)
        answered = set()
        for told in [game_bytes(one) for one in made_up_games(60)]:
            for turn in range(30):
                bytes_now = list(told)
                for change in range(1 + numbers.below(2)):
                    near = (0, 1, 2, 3, 7, 8, 249, 255, numbers.below(256))[numbers.below(9)]
                    bytes_now[numbers.below(len(told))] = near
                bytes_now = bytes_now[:len(told) - numbers.below(12) // 9]
                wanted = wanted_answer(bytes_now)
                answered.add(wanted[0])
                self.check([take(bytes_now[:150])], [wanted_answer(bytes_now[:150])])
        self.assertEqual(answered, {0, -1, -2})

    def test_bytes_of_no_sense(self):
        numbers = Numbers(4)
        for turn in range(300):
            told = [1 + numbers.below(6), 1 + numbers.below(8), numbers.below(3), numbers.below(2)]
            told += [numbers.below(256) for place in range(numbers.below(140))]
            self.check([take(told)], [wanted_answer(told)])


class CountOfNumbersTest(GameTest):
    def test_two_thousand_and_forty_eight_at_most(self):
        for pieces, most in ((2, 31), (3, 9), (4, 4), (5, 3), (6, 2)):
            for squares in (most, most + 1):
                told = game(range(squares), [kind()], [(0, 1)] * pieces)
                self.check([take(told)], [[0] if squares == most else [-2]])
        self.check([take(game(range(64), [king()], [(0, 0)]))], [[0]])

    def test_the_last_number_of_a_largest_game(self):
        told = game(range(31), [kind()], [(0, 0), (0, 1)])
        self.check([take(told), pos(2047), pos(2048)], [[0], [0, 3, OFF, OFF, 1], [-2]])


class TakenGameTest(GameTest):
    RACE = game(area(5, 1), [kind([(1, 0, 1, 1)], 0, [4])], [(0, 0)], 0, 1)

    def test_a_refused_game_leaves_the_game_and_what_is_known(self):
        too_large = game(range(64), [king()], [(0, 0), (0, 1)])
        for refused, answer in ((BASE[:-1], [-1, 39]), (too_large, [-2]), ([], [-1, 0])):
            calls = [take(self.RACE), solve(4), take(refused), value([2, 0]), value([1, 0]), solve(2), value([1, 0]),
                     take(refused), solve(40), take(refused), value([OFF, 0]), index([1, 0])]
            self.check(calls, [[0], [0, 1], answer, [0, 1, 3], [-3], [0, 1], [0, 1, 5],
                               answer, [0, 0], answer, [0, 0, 0], [0, 2]])

    def test_a_refused_game_at_the_beginning_is_no_game(self):
        self.check([take(BASE + [0]), value([0, 0])], [[-1, 40], [-4]])

    def test_a_game_taken_anew_has_nothing_solved(self):
        calls = [take(self.RACE), solve(40), value([3, 0]), take(self.RACE), value([3, 0]), solve(0), solve(1),
                 value([3, 0]), solve(1), value([3, 0])]
        self.check(calls, [[0], [0, 0], [0, 1, 1], [0], [-3], [0, 1], [0, 1], [-3], [0, 1], [0, 1, 1]])

    def test_another_game_takes_the_place_of_the_first(self):
        other = game([8, 10, 63], [rook()], [(0, 0), (0, 1)])
        self.check([take(self.RACE), solve(40), take(other), pos(1), pos(2), index([1, 0]), index([8, 10, 1])],
                   [[0], [0, 0], [0], [-2], [0, 3, 10, 8, 0], [-2], [0, 9]])

    def test_bytes_of_the_board_are_the_lowest_first(self):
        self.assertEqual(squares_bytes([0, 9, 63]), [1, 2, 0, 0, 0, 0, 0, 128])
        told = [1, 1, 0, 0, 1, 2, 0, 0, 0, 0, 0, 128, 0, 0] + [0] * 8 + [0, 0]
        self.check([take(told), pos(0), pos(2), pos(4), pos(6), pos(8)],
                   [[0], [0, 2, 0, 0], [0, 2, 9, 0], [0, 2, 63, 0], [0, 2, 64, 0], [-2]])

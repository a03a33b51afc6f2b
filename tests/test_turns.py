"""The calls turns and least: promise 5, turned positions have one value."""

from tests.helper import (
    GameTest, Numbers, OFF, Rules, TOP, area, ask, ask_each, game, index, kind, king, least, made_up_games,
    made_up_kind, rook, solve, take, turns, value,
)

# Where each turn carries file f and row r, written out.
CARRIED = (
    lambda f, r: (f, r), lambda f, r: (7 - f, r), lambda f, r: (f, 7 - r), lambda f, r: (7 - f, 7 - r),
    lambda f, r: (r, f), lambda f, r: (7 - r, f), lambda f, r: (r, 7 - f), lambda f, r: (7 - r, 7 - f),
)
# All sets of turns that are closed: a game's turns are one of these.
CLOSED = ((0,), (0, 1), (0, 2), (0, 3), (0, 4), (0, 7), (0, 1, 2, 3), (0, 3, 4, 7), (0, 3, 5, 6), tuple(range(8)))
WHOLE = area(8, 8)
MIDDLE = [18, 19, 20, 21, 26, 27, 28, 29, 34, 35, 36, 37, 42, 43, 44, 45]
CENTRE = [27, 28, 35, 36]


def turned(turn, square):
    if square == OFF:
        return OFF
    file, row = CARRIED[turn](square % 8, square // 8)
    return 8 * row + file


def turned_pattern(turn, pattern):
    """A pattern's step as the difference of two carried squares."""
    df, dr, reach, how = pattern
    start, end = CARRIED[turn](0, 0), CARRIED[turn](df, dr)
    return (end[0] - start[0], end[1] - start[1], reach, how)


def turned_row(turn, row):
    return tuple(turned(turn, square) for square in row[:-1]) + (row[-1],)


def kept(told):
    """The turns that keep a game, by the document's words."""
    found = []
    for turn in range(8):
        keeps = {turned(turn, square) for square in told["board"]} == set(told["board"])
        for one in told["kinds"]:
            keeps = keeps and {turned(turn, square) for square in one["goals"]} == set(one["goals"])
            keeps = keeps and {turned_pattern(turn, part) for part in one["patterns"]} == set(one["patterns"])
        if keeps:
            found.append(turn)
    return found


def squares_round(closed, squares):
    return sorted({turned(turn, square) for turn in closed for square in squares})


def patterns_round(closed, patterns):
    return [turned_pattern(turn, pattern) for pattern in patterns for turn in closed]


def summed(closed):
    return sum(1 << turn for turn in closed)


def made_up_turned_game(seed):
    """A game that a closed set of turns keeps: board, goals and patterns are carried round by it."""
    numbers = Numbers(1000 + seed)
    closed = CLOSED[seed % len(CLOSED)]
    count = 1 + numbers.below(3)
    board = []
    while len(board) < (0, 9, 6, 2)[count]:
        board = squares_round(closed, board + [MIDDLE[numbers.below(16)]])
    kinds = []
    for turn in range(1 + numbers.below(2)):
        one = made_up_kind(numbers, board)
        patterns = list(dict.fromkeys(patterns_round(closed, one["patterns"][:2])))
        kinds.append(kind(patterns, one["royal"], squares_round(closed, one["goals"])))
    pieces = [(numbers.below(len(kinds)), (piece + numbers.below(4) // 3) % 2) for piece in range(count)]
    return game(board, kinds, pieces, numbers.below(3), numbers.below(5) // 4)


TURNED_GAMES = [made_up_turned_game(seed) for seed in range(40)] + [
    game(MIDDLE, [king(), rook(1, (), 1)], [(0, 0), (1, 1)], 1),
    game(CENTRE, [king(), rook()], [(0, 0), (1, 0), (0, 1)], 1),
    game(CENTRE, [king(0, [27, 36]), kind(patterns_round(range(8), [(1, 0, 1, 1)]), 1)], [(0, 0), (1, 1), (1, 0)]),
    game([0, 7, 56, 63, 27, 28, 35, 36], [king(), kind(patterns_round(range(8), [(3, 3, 2, 3)]))], [(0, 0), (1, 1)], 2),
]


class TurnsTest(GameTest):
    def check_turns(self, told, closed):
        self.check([take(told), turns()], [[0], [0, summed(closed)]])

    def test_kept_by_the_board(self):
        for closed in CLOSED:
            self.check_turns(game(squares_round(closed, [1]), [king()], [(0, 0)]), closed)

    def test_kept_by_goals(self):
        for closed in CLOSED:
            self.check_turns(game(WHOLE, [king(0, squares_round(closed, [19]))], [(0, 0)]), closed)

    def test_kept_by_patterns(self):
        for closed in CLOSED:
            for pattern in ((1, 2, 1, 3), (-7, 3, 7, 1), (-2, -6, 2, 2)):
                self.check_turns(game(WHOLE, [kind(patterns_round(closed, [pattern]))], [(0, 0)]), closed)

    def test_a_quarter_turn_and_its_way_back(self):
        # Turn 5 carries file 1, row 0 to file 7, row 1, and turn 6 carries it to file 0, row 6.
        told = game([1, 15, 48, 62], [kind()], [(0, 0)])
        self.check([take(told), turns(), least([1, 0]), least([15, 0]), least([48, 0]), least([62, 0])],
                   [[0], [0, 105], [0, 0, 2, 1, 0], [0, 6, 2, 1, 0], [0, 5, 2, 1, 0], [0, 3, 2, 1, 0]])

    def test_each_step_goes_with_its_own_square(self):
        # A slide to one side is kept by mirroring the other way alone.
        for pattern, closed in (((1, 0), (0, 2)), ((-1, 0), (0, 2)), ((0, 1), (0, 1)), ((0, -1), (0, 1)),
                                ((1, 1), (0, 4)), ((-1, -1), (0, 4)), ((1, -1), (0, 7)), ((-1, 1), (0, 7))):
            self.check_turns(game(WHOLE, [kind([pattern + (1, 3)])], [(0, 0)]), closed)

    def test_all_three_must_be_kept(self):
        told = game(squares_round((0, 1, 2, 3), [1]), [kind(patterns_round((0, 3, 4, 7), [(1, 2, 1, 3)]))], [(0, 0)])
        self.check_turns(told, (0, 3))
        told = game(WHOLE, [kind(patterns_round((0, 1), [(1, 2, 1, 3)]), 0, squares_round((0, 2), [1]))], [(0, 0)])
        self.check_turns(told, (0,))

    def test_patterns_told_twice_and_in_another_order(self):
        one, other = (1, 2, 3, 1), (-1, 2, 3, 1)
        for patterns in ([one, other], [other, one], [one, one, other], [other, one, other, other, one], [one, other] * 8):
            self.check_turns(game(WHOLE, [kind(patterns)], [(0, 0)]), (0, 1))
        for patterns in ([one], [one, one], [one] * 16):
            self.check_turns(game(WHOLE, [kind(patterns)], [(0, 0)]), (0,))

    def test_reach_and_how_must_be_the_same(self):
        for other, closed in (((-1, 2, 3, 1), (0, 1)), ((-1, 2, 2, 1), (0,)), ((-1, 2, 3, 3), (0,)), ((-1, 2, 3, 2), (0,))):
            self.check_turns(game(WHOLE, [kind([(1, 2, 3, 1), other])], [(0, 0)]), closed)
        # Two patterns that come to the same as one are still others.
        self.check_turns(game(WHOLE, [kind([(1, 0, 1, 1), (1, 0, 1, 2), (-1, 0, 1, 3)])], [(0, 0)]), (0, 2))
        self.check_turns(game(WHOLE, [kind([(1, 0, 2, 3), (1, 0, 1, 3), (-1, 0, 2, 3)])], [(0, 0)]), (0, 2))

    def test_kinds_of_no_piece_count(self):
        told = game(WHOLE, [king(), kind([(1, 2, 1, 3)])], [(0, 0)])
        self.check_turns(told, (0,))
        told = game(WHOLE, [king(), king(0, [1])], [(0, 0)])
        self.check_turns(told, (0,))
        told = game(WHOLE, [king(), kind(), rook()], [(0, 0)])
        self.check_turns(told, range(8))

    def test_a_kind_is_not_carried_to_another(self):
        told = game(WHOLE, [king(0, [1]), king(0, [6])], [(0, 0)])
        self.check_turns(told, (0,))
        told = game(WHOLE, [kind([(1, 2, 1, 3)]), kind([(-1, 2, 1, 3)])], [(0, 0)])
        self.check_turns(told, (0,))

    def test_the_board_is_turned_in_its_eight_by_eight(self):
        # A block in the corner looks the same mirrored, but lies elsewhere then.
        self.check_turns(game(area(3, 3), [king()], [(0, 0)]), (0, 4))
        self.check_turns(game(area(8, 2), [king()], [(0, 0)]), (0, 1))
        self.check_turns(game([0], [king()], [(0, 0)]), (0, 4))
        self.check_turns(game([7], [king()], [(0, 0)]), (0, 7))
        self.check_turns(game([63], [kind()], [(0, 0)]), (0, 4))

    def test_sides_stuck_and_pass_do_not_count(self):
        for stuck in (0, 1, 2):
            for passing in (0, 1):
                told = game(MIDDLE, [king(), rook()], [(0, 0), (1, 1)], stuck, passing)
                self.check_turns(told, range(8))

    def test_made_up_games(self):
        for told in TURNED_GAMES + made_up_games(30):
            self.check_turns(told, kept(told))

    def test_solved_or_not(self):
        told = game(MIDDLE, [king(), rook(1, (), 1)], [(0, 0), (1, 1)], 1)
        self.check([turns(), take(told), turns(), solve(2), turns(), solve(38), turns()],
                   [[-4], [0], [0, 255], [0, 1], [0, 255], [0, 0], [0, 255]])


class LeastTest(GameTest):
    def test_hand_worked(self):
        # The corners of the board: 63 is carried to 0 by both mirrors, 7 by one, 56 by the other.
        told = game([0, 7, 56, 63], [king(0)], [(0, 0)])
        self.check([take(told), least([63, 1]), least([7, 0]), least([56, 1]), least([0, 0])],
                   [[0], [0, 3, 2, 0, 1], [0, 1, 2, 0, 0], [0, 2, 2, 0, 1], [0, 0, 2, 0, 0]])

    def test_the_later_pieces_weigh_more(self):
        # The second piece is carried to 0 first; of the two turns that do so the one that has the first lower.
        told = game([0, 7, 56, 63], [king(0)], [(0, 0), (0, 1)])
        self.check([take(told), least([0, 63, 0]), least([56, 63, 1]), least([7, 63, 0]), least([56, 0, 0])],
                   [[0], [0, 3, 3, 63, 0, 0], [0, 3, 3, 7, 0, 1], [0, 7, 3, 7, 0, 0], [0, 4, 3, 7, 0, 0]])

    def test_pieces_that_are_off_stay_off(self):
        told = game([0, 7, 56, 63], [king(0)], [(0, 0), (0, 1)])
        self.check([take(told), least([OFF, 63, 0]), least([63, OFF, 1]), least([OFF, OFF, 0]), least([OFF, OFF, 1])],
                   [[0], [0, 3, 3, OFF, 0, 0], [0, 3, 3, 0, OFF, 1], [0, 0, 3, OFF, OFF, 0], [0, 0, 3, OFF, OFF, 1]])

    def test_only_turns_that_keep_the_game(self):
        told = game([0, 7, 56, 63], [king(0, [56, 63])], [(0, 0)])
        self.check([take(told), turns(), least([63, 0]), least([56, 0]), least([7, 1])],
                   [[0], [0, 3], [0, 1, 2, 56, 0], [0, 0, 2, 56, 0], [0, 1, 2, 0, 1]])
        told = game([0, 7, 56, 63], [king(0, [56])], [(0, 0)])
        self.check([take(told), turns(), least([63, 0]), least([7, 0]), least([56, 0])],
                   [[0], [0, 129], [0, 7, 2, 0, 0], [0, 0, 2, 7, 0], [0, 0, 2, 56, 0]])

    def test_of_several_turns_the_least(self):
        # A piece on the long diagonal: turns 0 and 4 leave it where it is, 3 and 7 carry it to the same square.
        told = game(WHOLE, [king(0)], [(0, 0)])
        self.check([take(told), least([9, 0]), least([54, 0]), least([14, 1]), least([49, 1])],
                   [[0], [0, 0, 2, 9, 0], [0, 3, 2, 9, 0], [0, 1, 2, 9, 1], [0, 2, 2, 9, 1]])

    def test_all_eight_turns_are_the_least_of_some(self):
        told = game(WHOLE, [king(0)], [(0, 0)])
        found = ask_each(told, 0, [least([turned(turn, 1), 0]) for turn in range(8)])
        self.assertEqual(found, [[0, turn, 2, 1, 0] for turn in (0, 1, 2, 3, 4, 6, 5, 7)])

    def test_every_position(self):
        for told in TURNED_GAMES:
            rules = Rules(told)
            closed = kept(told)
            numbers = {row: number for number, row in rules.rows().items()}
            rows = list(numbers)[::1 + len(numbers) // 150]
            wanted = []
            for row in rows:
                number, turn = min((numbers[turned_row(turn, row)], turn) for turn in closed)
                wanted.append([0, turn, len(row)] + list(turned_row(turn, row)))
            self.assertEqual(ask_each(told, 0, [least(row) for row in rows]), wanted)

    def test_what_is_carried_to_one_another_has_one_least(self):
        for told in TURNED_GAMES[-4:]:
            for row in list(Rules(told).rows().values())[::23]:
                found = ask(take(told), *[least(turned_row(turn, row)) for turn in kept(told)])
                self.assertEqual(len({tuple(one[2:]) for one in found[1:]}), 1)

    def test_a_position_that_is_not_right(self):
        told = game([0, 7, 56, 63], [king(0)], [(0, 0), (0, 1)])
        for rounds, solved in ((0, 1), (40, 0)):
            rows = ([0, 0, 0], [0, 7], [0, 7, 0, 0], [], [0, 7, 2], [1, 7, 0], [65, 7, 0], [TOP] * 3, [0] * 100)
            self.check([take(told), solve(rounds)] + [least(row) for row in rows], [[0], [0, solved]] + [[-2]] * 9)

    def test_solved_or_not(self):
        told = game(MIDDLE, [king(), rook(1, (), 1)], [(0, 0), (1, 1)], 1)
        row = [45, 20, 1]
        found = ask(least(row), take(told), least(row), solve(2), least(row), solve(38), least(row))
        self.assertEqual(found[0], [-4])
        self.assertEqual(found[2][0], 0)
        self.assertEqual(found[2:7:2], [found[2]] * 3)


class OneValueTest(GameTest):
    """Promise 5."""

    def test_turned_positions_have_one_value(self):
        for told in TURNED_GAMES:
            rows = list(Rules(told).rows().values())
            values = dict(zip(rows, ask_each(told, 40, [value(row) for row in rows])))
            for turn in kept(told):
                self.assertEqual([values[turned_row(turn, row)] for row in rows], list(values.values()))

    def test_the_least_has_the_value_too(self):
        for told in TURNED_GAMES[-4:]:
            rows = list(Rules(told).rows().values())[::5]
            leasts = [one[3:] for one in ask_each(told, 0, [least(row) for row in rows])]
            self.assertEqual(ask_each(told, 40, [value(row) for row in rows]),
                             ask_each(told, 40, [value(row) for row in leasts]))
            before = ask_each(told, 0, [index(row) for row in rows])
            after = ask_each(told, 0, [index(row) for row in leasts])
            self.assertTrue(all(low[1] <= high[1] for low, high in zip(after, before)))

    def test_the_games_are_of_every_sort(self):
        sorts = {tuple(kept(told)) for told in TURNED_GAMES}
        self.assertEqual(sorts, set(CLOSED))

"""The calls moves and play."""

from tests.helper import (
    GameTest, OFF, PASS, Rules, TOP, area, ask, ask_each, game, kind, king, made_up_games, moves, play, rook, solve,
    take,
)

ROW = area(7, 1)
TWO_ROWS = area(8, 2)


def line_game(*patterns, sides=(0, 1), board=ROW, passing=0):
    """Piece 0 has the patterns; the others stand still."""
    kinds = [kind(patterns), kind()]
    return game(board, kinds, [(0, sides[0])] + [(1, side) for side in sides[1:]], 0, passing)


class MovesTest(GameTest):
    def check_moves(self, told, row, wanted):
        self.assertEqual(ask(take(told), moves(row)), [[0], [0, len(wanted)] + wanted])


class WayTest(MovesTest):
    def test_how_one_goes_to_empty_squares_and_takes_nothing(self):
        told = line_game((1, 0, 7, 1))
        self.check_moves(told, [0, 3, 0], [1, 2])
        self.check_moves(told, [0, 1, 0], [])
        self.check_moves(told, [0, OFF, 0], [1, 2, 3, 4, 5, 6])

    def test_how_two_takes_alone_over_empty_squares(self):
        told = line_game((1, 0, 7, 2))
        self.check_moves(told, [0, 3, 0], [3])
        self.check_moves(told, [0, 1, 0], [1])
        self.check_moves(told, [0, OFF, 0], [])

    def test_how_three_does_both(self):
        told = line_game((1, 0, 7, 3))
        self.check_moves(told, [0, 3, 0], [1, 2, 3])
        self.check_moves(told, [0, OFF, 0], [1, 2, 3, 4, 5, 6])

    def test_reach(self):
        for reach in range(1, 8):
            told = line_game((1, 0, reach, 3))
            self.check_moves(told, [0, OFF, 0], list(range(1, min(reach, 6) + 1)))
            self.check_moves(told, [0, 3, 0], list(range(1, min(reach, 3) + 1)))

    def test_a_piece_of_its_own_ends_the_way(self):
        for how, wanted in ((1, [1]), (2, []), (3, [1])):
            told = line_game((1, 0, 7, how), sides=(0, 0, 1))
            self.check_moves(told, [0, 2, 3, 0], wanted)

    def test_a_piece_of_the_other_side_ends_the_way(self):
        for how, wanted in ((1, [1]), (2, [2]), (3, [1, 2])):
            told = line_game((1, 0, 7, how), sides=(0, 1, 1))
            self.check_moves(told, [0, 2, 3, 0], wanted)

    def test_the_edges_of_the_board(self):
        told = line_game((1, 0, 7, 3), board=TWO_ROWS)
        self.check_moves(told, [6, OFF, 0], [7])
        self.check_moves(told, [7, OFF, 0], [])
        told = line_game((-1, 0, 7, 3), board=TWO_ROWS)
        self.check_moves(told, [9, OFF, 0], [8])
        self.check_moves(told, [8, OFF, 0], [])
        told = line_game((0, -1, 7, 3), board=TWO_ROWS)
        self.check_moves(told, [8, OFF, 0], [0])
        self.check_moves(told, [0, OFF, 0], [])
        told = line_game((0, 1, 7, 3), board=[48, 56])
        self.check_moves(told, [48, OFF, 0], [56])
        self.check_moves(told, [56, OFF, 0], [])

    def test_wide_steps_stay_on_their_row(self):
        told = game(range(64), [kind([(7, 0, 1, 1), (-7, 1, 1, 1), (7, -1, 7, 1), (1, -7, 1, 1)])], [(0, 0)])
        self.check_moves(told, [0, 0], [7])
        self.check_moves(told, [1, 0], [])
        self.check_moves(told, [7, 0], [8])
        self.check_moves(told, [8, 0], [15, 7])
        self.check_moves(told, [57, 0], [2])

    def test_a_hole_of_the_board_ends_the_way(self):
        told = line_game((1, 0, 7, 3), board=[0, 1, 3, 4])
        self.check_moves(told, [0, 4, 0], [1])
        self.check_moves(told, [1, 3, 0], [])
        self.check_moves(told, [3, OFF, 0], [4])

    def test_steps_of_two_pass_over_what_lies_between(self):
        told = line_game((2, 0, 2, 3), sides=(0, 1, 0), board=[0, 1, 2, 4, 6])
        self.check_moves(told, [0, 1, OFF, 0], [2, 4])
        self.check_moves(told, [0, 2, 1, 0], [2])
        self.check_moves(told, [0, 4, 1, 0], [2, 4])

    def test_knight_steps_with_a_reach(self):
        told = game(area(5, 5), [kind([(1, 2, 7, 3), (-2, 1, 1, 3)])], [(0, 1)])
        self.check_moves(told, [0, 1], [17, 34])
        self.check_moves(told, [2, 1], [19, 36, 8])


class OrderTest(MovesTest):
    def test_pieces_then_patterns_then_distance(self):
        told = game(area(3, 3), [kind([(1, 0, 7, 3), (0, 1, 7, 3)]), kind([(0, 1, 1, 3), (1, 0, 1, 3)])],
                    [(1, 0), (0, 0)])
        self.check_moves(told, [0, 8, 0], [1, 256 + 9, 256 + 10, 256 + 16])
        self.check_moves(told, [8, 0, 0], [16, 9, 256 + 1, 256 + 2])
        self.check_moves(told, [OFF, 0, 0], [256 + 1, 256 + 2, 256 + 8, 256 + 16])
        self.check_moves(told, [0, OFF, 0], [8, 1])

    def test_a_square_reached_by_two_ways_is_told_once_at_the_first(self):
        told = line_game((2, 0, 1, 3), (1, 0, 3, 1), (3, 0, 1, 2), (1, 0, 7, 3))
        self.check_moves(told, [0, OFF, 0], [2, 1, 3, 4, 5, 6])
        self.check_moves(told, [0, 2, 0], [2, 1])
        self.check_moves(told, [0, 3, 0], [2, 1, 3])

    def test_two_pieces_may_come_to_one_square(self):
        told = game(area(3, 1), [kind([(1, 0, 1, 3), (-1, 0, 1, 3)])], [(0, 1), (0, 1)])
        self.check_moves(told, [0, 2, 1], [1, 256 + 1])

    def test_only_the_side_to_move_moves(self):
        told = game(area(4, 1), [rook()], [(0, 0), (0, 1)])
        self.check_moves(told, [0, 2, 0], [1, 2])
        self.check_moves(told, [0, 2, 1], [256 + 3, 256 + 1, 256])

    def test_pieces_that_are_off_do_not_move(self):
        told = game(area(4, 1), [rook()], [(0, 0), (0, 1)])
        self.check_moves(told, [OFF, 2, 0], [])
        self.check_moves(told, [OFF, OFF, 1], [])

    def test_the_pass_is_last(self):
        told = line_game((1, 0, 2, 3), passing=1)
        self.check_moves(told, [0, 3, 0], [1, 2, PASS])
        self.check_moves(told, [0, 3, 1], [PASS])
        self.check_moves(told, [OFF, OFF, 0], [PASS])


class LostTest(MovesTest):
    TOLD = game(area(3, 1), [king(1, [2]), rook(0, [0])], [(0, 0), (1, 1)], 0, 1)

    def test_no_moves_where_a_side_has_lost(self):
        for row in ([OFF, 1, 0], [OFF, 1, 1], [2, 1, 0], [2, 1, 1], [1, 0, 0], [1, 0, 1], [2, 0, 1]):
            self.check_moves(self.TOLD, row, [])

    def test_goals_of_another_kind_and_pieces_that_are_not_royal(self):
        self.check_moves(self.TOLD, [0, 2, 0], [1, PASS])
        self.check_moves(self.TOLD, [1, OFF, 0], [2, 0, PASS])

    def test_nothing_can_be_played_there(self):
        calls = [play(move, row) for row in ([OFF, 1, 1], [2, 1, 0]) for move in (PASS, 0, 1, 256, 258)]
        self.check([take(self.TOLD)] + calls, [[0]] + [[-5]] * 10)


class PlayTest(GameTest):
    TOLD = game(area(4, 1), [rook()], [(0, 0), (0, 1), (0, 1)], 0, 1)

    def test_positions_after(self):
        row = [1, 3, OFF, 0]
        self.check([take(self.TOLD), play(2, row), play(3, row), play(0, row), play(PASS, row)],
                   [[0], [0, 4, 2, 3, OFF, 1], [0, 4, 3, OFF, OFF, 1], [0, 4, 0, 3, OFF, 1], [0, 4, 1, 3, OFF, 1]])
        row = [1, 3, 0, 1]
        self.check([take(self.TOLD), play(512 + 1, row), play(256 + 2, row), play(PASS, row)],
                   [[0], [0, 4, OFF, 3, 1, 0], [0, 4, 1, 2, 0, 0], [0, 4, 1, 3, 0, 0]])

    def test_what_is_no_move(self):
        row = [1, 3, OFF, 0]
        wrong = (1, 4, 64, 255, 256 + 2, 512, 512 + OFF, 768, 65534, 65536, 65536 + 2, TOP)
        self.check([take(self.TOLD)] + [play(move, row) for move in wrong], [[0]] + [[-5]] * len(wrong))

    def test_no_pass_where_there_is_none(self):
        told = game(area(4, 1), [rook()], [(0, 0)])
        self.check([take(told), play(PASS, [1, 0]), play(PASS, [1, 1])], [[0], [-5], [-5]])

    def test_a_wrong_position_comes_before_a_wrong_move(self):
        for row in ([1, 1, OFF, 0], [1, 3, 0], [1, 3, OFF, 2], [5, 3, OFF, 0]):
            self.check([take(self.TOLD), play(TOP, row), play(PASS, row), moves(row)], [[0], [-2], [-2], [-2]])

    def test_playing_changes_nothing(self):
        row = [1, 3, OFF, 0]
        found = ask(take(self.TOLD), play(2, row), moves(row), play(2, row), solve(1), moves(row))
        self.assertEqual(found[1], found[3])
        self.assertEqual(found[2], found[5])


class EveryPositionTest(GameTest):
    def test_moves_and_positions_after_as_worked_out_a_second_time(self):
        for told in made_up_games(25):
            rules = Rules(told)
            rows = list(rules.rows().values())[::3]
            wanted = [rules.moves(row) for row in rows]
            self.assertEqual(ask_each(told, 0, [moves(row) for row in rows]), [[0, len(one)] + one for one in wanted])
            pairs = [(move, row) for row, one in zip(rows, wanted) for move in one[-2:]]
            after = [rules.after(row, move) for move, row in pairs]
            self.assertEqual(ask_each(told, 0, [play(move, row) for move, row in pairs]),
                             [[0, len(row)] + list(row) for row in after])

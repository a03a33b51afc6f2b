"""The end: what a position without moves is, in 0 moves."""

from tests.helper import DRAW, GameTest, LOSS, OFF, WIN, area, ask, game, kind, king, rook, solve, take, value


class EndTest(GameTest):
    def check_end(self, told, row, outcome):
        """Wins and losses are known after the first round, draws when the game is solved."""
        found = ask(take(told), value(row), solve(1), value(row), solve(39), value(row))
        self.assertEqual(found[1], [-3])
        if outcome != DRAW and found[2] == [0, 1]:
            self.assertEqual(found[3], [0, outcome, 0])
        if outcome == DRAW and found[2] == [0, 1]:
            self.assertEqual(found[3], [-3])
        self.assertEqual(found[4:], [[0, 0], [0, outcome, 0]])


class RoyalTest(EndTest):
    TOLD = game(area(3, 1), [king(), rook()], [(0, 0), (0, 1), (1, 0)])

    def test_a_royal_piece_that_is_off(self):
        self.check_end(self.TOLD, [OFF, 1, 2, 0], LOSS)
        self.check_end(self.TOLD, [OFF, 1, 2, 1], WIN)
        self.check_end(self.TOLD, [0, OFF, 2, 0], WIN)
        self.check_end(self.TOLD, [0, OFF, 2, 1], LOSS)

    def test_both_sides_lost(self):
        for side in (0, 1):
            self.check_end(self.TOLD, [OFF, OFF, 2, side], DRAW)
            self.check_end(self.TOLD, [OFF, OFF, OFF, side], DRAW)

    def test_one_of_two_royal_pieces(self):
        told = game(area(3, 1), [king()], [(0, 0), (0, 0), (0, 1)])
        self.check_end(told, [0, OFF, 2, 0], LOSS)
        self.check_end(told, [OFF, 0, 2, 1], WIN)

    def test_a_piece_off_that_is_not_royal_loses_nothing(self):
        found = ask(take(self.TOLD), solve(1), value([0, 2, OFF, 0]), value([0, 2, OFF, 1]))
        self.assertEqual(found[1:], [[0, 1], [-3], [-3]])


class GoalTest(EndTest):
    TOLD = game(area(4, 1), [rook(0, [3]), rook(0, [0])], [(0, 0), (1, 1)])

    def test_a_piece_on_a_goal_of_its_kind(self):
        self.check_end(self.TOLD, [3, 1, 0], WIN)
        self.check_end(self.TOLD, [3, 1, 1], LOSS)
        self.check_end(self.TOLD, [1, 0, 0], LOSS)
        self.check_end(self.TOLD, [1, 0, 1], WIN)
        self.check_end(self.TOLD, [3, OFF, 1], LOSS)

    def test_both_on_their_goals(self):
        self.check_end(self.TOLD, [3, 0, 0], DRAW)
        self.check_end(self.TOLD, [3, 0, 1], DRAW)

    def test_a_goal_of_another_kind_is_none(self):
        found = ask(take(self.TOLD), solve(1), value([0, 3, 0]), value([0, 3, 1]), value([OFF, 3, 1]))
        self.assertEqual(found[1:], [[0, 1], [-3], [-3], [-3]])

    def test_a_royal_piece_off_and_a_goal_reached(self):
        told = game(area(4, 1), [king(1, [3])], [(0, 0), (0, 1)])
        self.check_end(told, [3, OFF, 0], WIN)
        self.check_end(told, [OFF, 3, 0], LOSS)
        # Side 0 stands on its goal, and has lost its royal piece.
        told = game(area(4, 1), [king(), rook(0, [3])], [(0, 0), (1, 0), (1, 1)])
        self.check_end(told, [OFF, 3, 1, 0], DRAW)

    def test_every_goal_of_a_kind_counts(self):
        told = game([0, 7, 56, 63], [kind([], 0, [0, 63])], [(0, 1)], 1)
        for square, outcome in ((0, LOSS), (7, DRAW), (56, DRAW), (63, LOSS), (OFF, DRAW)):
            self.check_end(told, [square, 0], outcome)


class StuckTest(EndTest):
    OUTCOMES = ((0, LOSS), (1, DRAW), (2, WIN))

    def test_a_side_without_moves(self):
        for stuck, outcome in self.OUTCOMES:
            told = game(area(2, 1), [kind([(1, 0, 1, 1)])], [(0, 0), (0, 1)], stuck)
            self.check_end(told, [1, 0, 0], outcome)
            self.check_end(told, [0, 1, 1], outcome)
            self.check_end(told, [0, 1, 0], outcome)
            self.check_end(told, [OFF, 0, 0], outcome)
            self.check_end(told, [OFF, OFF, 1], outcome)

    def test_a_side_without_pieces(self):
        for stuck, outcome in self.OUTCOMES:
            told = game([9], [king(0)], [(0, 0)], stuck)
            for row in ([9, 0], [9, 1], [OFF, 0], [OFF, 1]):
                self.check_end(told, row, outcome)

    def test_who_has_lost_counts_before_who_is_stuck(self):
        for stuck in (0, 1, 2):
            told = game(area(3, 1), [kind([], 1, [2])], [(0, 0), (0, 1)], stuck)
            self.check_end(told, [2, 0, 0], WIN)
            self.check_end(told, [2, 0, 1], LOSS)
            self.check_end(told, [OFF, 0, 0], LOSS)
            self.check_end(told, [OFF, OFF, 1], DRAW)

    def test_who_may_pass_is_not_stuck(self):
        for stuck in (0, 1, 2):
            told = game(area(2, 1), [kind()], [(0, 0), (0, 1)], stuck, 1)
            found = ask(take(told), solve(1), value([0, 1, 0]), value([OFF, OFF, 1]))
            self.assertEqual(found[1:], [[0, 0], [0, 0, 0], [0, 0, 0]])

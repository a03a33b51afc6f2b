"""The calls solve and value: promises 1 (what is told is so) and 3 (rounds may be cut anywhere)."""

from tests.helper import (
    DRAW, GameTest, LOSS, OFF, Rules, TOP, WIN, area, ask, ask_each, game, kind, king, made_up_games, rook, solve,
    take, value,
)

# One piece steps on along a row of eight to its goal; the other side can only pass.
RACE = game(area(8, 1), [kind([(1, 0, 1, 1)], 0, [7])], [(0, 0)], 0, 1)

# Four rows of eight, joined at their ends to one long way, with the goal at its end.
SNAKE_WAY = [0, 1, 2, 3, 4, 5, 6, 7, 15, 23, 22, 21, 20, 19, 18, 17, 16, 24, 32, 33, 34, 35, 36, 37, 38, 39]
SNAKE = game(SNAKE_WAY, [rook(0, [39], 1)], [(0, 0)], 0, 1)

ROOK_HUNT = game(area(3, 3), [king(), rook()], [(0, 0), (1, 0), (0, 1)], 1)
CHASE = game(area(4, 4), [king(), kind([(1, 0, 1, 3), (-1, 0, 1, 3), (0, 1, 1, 3), (0, -1, 1, 3)], 1)],
             [(0, 0), (1, 1)], 1)


def deepest(values):
    """The greatest count, and -1 where there is none but draws."""
    return max([count for outcome, count in values.values() if outcome != DRAW], default=-1)


class HandWorkedTest(GameTest):
    def test_a_race(self):
        for square in range(8):
            steps = 7 - square
            found = ask(take(RACE), solve(40), value([square, 0]), value([square, 1]))
            self.assertEqual(found[1], [0, 0])
            self.assertEqual(found[2:], [[0, WIN, max(2 * steps - 1, 0)], [0, LOSS, 2 * steps]])

    def test_a_piece_that_is_off_never_comes_back(self):
        self.check([take(RACE), solve(40), value([OFF, 0]), value([OFF, 1])], [[0], [0, 0], [0, 0, 0], [0, 0, 0]])

    def test_a_piece_that_must_step_past(self):
        # Both step towards one another on a row of five; who cannot step has lost.
        told = game(area(5, 1), [kind([(1, 0, 1, 1)]), kind([(-1, 0, 1, 1)])], [(0, 0), (1, 1)])
        self.check([take(told), solve(40), value([0, 1, 0]), value([0, 2, 0]), value([0, 3, 0]), value([0, 4, 0]),
                    value([0, 4, 1])],
                   [[0], [0, 0], [0, LOSS, 0], [0, WIN, 1], [0, LOSS, 2], [0, WIN, 3], [0, WIN, 3]])

    def test_a_win_takes_the_shortest_and_a_loss_the_longest(self):
        # The piece may go one or two squares a move, and the goal is the last square.
        told = game(area(6, 1), [kind([(1, 0, 2, 1)], 0, [5])], [(0, 0)], 0, 1)
        found = ask(take(told), solve(40), *[value([square, 0]) for square in range(6)])
        self.assertEqual(found[2:], [[0, WIN, 5], [0, WIN, 3], [0, WIN, 3], [0, WIN, 1], [0, WIN, 1], [0, WIN, 0]])
        # Side 1 runs from a taker in the corner: it may stay, or step away once and be caught later.
        told = game(area(4, 1), [rook(0, (), 1), rook(1, (), 1)], [(0, 0), (1, 1)])
        self.check([take(told), solve(40), value([1, 3, 1]), value([0, 3, 1]), value([0, 2, 1]), value([0, 1, 1])],
                   [[0], [0, 0], [0, LOSS, 2], [0, WIN, 3], [0, LOSS, 4], [0, WIN, 1]])

    def test_neither_side_can_win(self):
        told = game(area(3, 3), [king()], [(0, 0), (0, 1)])
        self.check([take(told), solve(40), value([0, 18, 0]), value([0, 9, 0]), value([0, OFF, 0])],
                   [[0], [0, 0], [0, DRAW, 0], [0, WIN, 1], [0, WIN, 0]])

    def test_more_rounds_than_may_be_asked_for(self):
        # 25 steps to go are a win in 49 moves, which 40 rounds don't reach.
        found = ask(take(SNAKE), solve(40), value([SNAKE_WAY[5], 0]), value([SNAKE_WAY[6], 1]),
                    value([SNAKE_WAY[6], 0]), value([SNAKE_WAY[5], 1]), value([SNAKE_WAY[0], 0]), value([OFF, 0]))
        self.assertEqual(found[1:], [[0, 1], [0, WIN, 39], [0, LOSS, 38], [0, WIN, 37], [-3], [-3], [-3]])


class SecondWorkingOutTest(GameTest):
    """Every right position's value, against the definition."""

    def check_values(self, told):
        values = Rules(told).values()
        self.assertLess(deepest(values), 39)
        found = ask_each(told, 40, [value(row) for row in values])
        self.assertEqual(found, [[0, outcome, count] for outcome, count in values.values()])

    def test_made_up_games(self):
        for told in made_up_games(40):
            self.check_values(told)

    def test_a_rook_hunts_a_king(self):
        self.check_values(ROOK_HUNT)

    def test_a_chase(self):
        self.check_values(CHASE)

    def test_games_of_up_to_six_pieces(self):
        for pieces, squares in ((4, area(2, 2)), (5, [0, 1, 8]), (6, [0, 1])):
            kinds = [king(), king(0)]
            self.check_values(game(squares, kinds, [(0, 0), (0, 1)] + [(1, side % 2) for side in range(pieces - 2)], 1))

    def test_every_value_follows_from_those_after_it(self):
        for told in (ROOK_HUNT, CHASE):
            rules = Rules(told)
            rows = list(rules.rows().values())
            found = ask_each(told, 40, [value(row) for row in rows])
            values = {row: tuple(one[1:]) for row, one in zip(rows, found)}
            for row in rows:
                after = [values[rules.after(row, move)] for move in rules.moves(row)]
                losses = [count for outcome, count in after if outcome == LOSS]
                wins = [count for outcome, count in after if outcome == WIN]
                if not after:
                    wanted = (rules.ending(row), 0)
                elif losses:
                    wanted = (WIN, min(losses) + 1)
                else:
                    wanted = (LOSS, max(wins) + 1) if len(wins) == len(after) else (DRAW, 0)
                self.assertEqual(values[row], wanted)


class RoundsTest(GameTest):
    GAMES = [RACE, CHASE] + made_up_games(12)

    def known_after(self, values, rounds):
        """What value answers after so many rounds in all."""
        solved = rounds >= deepest(values) + 2
        return [[0, outcome, count] if solved or (outcome != DRAW and count < rounds) else [-3]
                for outcome, count in values.values()]

    def test_just_what_is_told_is_known_after_each_round(self):
        for told in self.GAMES:
            values = Rules(told).values()
            for rounds in range(deepest(values) + 5):
                found = ask_each(told, rounds, [value(row) for row in values])
                self.assertEqual(found, self.known_after(values, rounds))

    def test_solved_as_soon_as_a_round_brings_nothing(self):
        for told in self.GAMES:
            enough = deepest(Rules(told).values()) + 2
            for rounds in range(enough + 3):
                self.check([take(told), solve(rounds)], [[0], [0, 1 if rounds < enough else 0]])
            self.check([take(told), solve(enough), solve(0), solve(3)], [[0], [0, 0], [0, 0], [0, 0]])

    def test_the_same_wherever_the_rounds_are_cut(self):
        for told in (RACE, CHASE):
            values = Rules(told).values()
            rows = list(values)[::17]
            for rounds in range(0, deepest(values) + 4, 3):
                whole = ask(take(told), solve(rounds), *[value(row) for row in rows[:10]])
                for cut in range(rounds + 1):
                    for parts in ((cut, rounds - cut), (0, cut, 0, rounds - cut), (cut // 2, cut - cut // 2, rounds - cut)):
                        calls = [take(told)] + [solve(part) for part in parts] + [value(row) for row in rows[:10]]
                        found = ask(*calls)
                        self.assertEqual(found[len(parts):], whole[1:])

    def test_what_is_asked_between_rounds_changes_nothing(self):
        calls = [take(RACE)]
        for rounds in range(7):
            calls += [value([4, 0]), solve(1)]
        found = ask(*calls)
        self.assertEqual(found[1::2], [[-3]] * 6 + [[0, WIN, 5]])
        self.assertEqual(found[2::2], [[0, 1]] * 7)

    def test_a_draw_at_its_end_is_known_when_the_game_is_solved(self):
        told = game(area(3, 1), [kind([(1, 0, 1, 1)], 1, [2])], [(0, 0), (0, 1)], 1)
        row = [OFF, OFF, 0]
        self.check([take(told), value(row), solve(1), value(row), solve(1), value(row), solve(1), value(row)],
                   [[0], [-3], [0, 1], [-3], [0, 1], [-3], [0, 0], [0, DRAW, 0]])

    def test_a_game_of_draws_alone_takes_one_round(self):
        told = game(area(2, 1), [kind()], [(0, 0)], 1)
        self.check([take(told), solve(0), value([0, 0]), solve(1), value([0, 0]), value([OFF, 1])],
                   [[0], [0, 1], [-3], [0, 0], [0, DRAW, 0], [0, DRAW, 0]])

    def test_positions_that_are_not_right_take_no_rounds(self):
        # Two royal pieces fill the board, so every right position is at its end; both on one square could step.
        told = game([0, 1], [king(1, (), 1)], [(0, 0), (0, 1)])
        self.check([take(told), solve(1), solve(1), value([0, 1, 0]), value([OFF, 1, 1])],
                   [[0], [0, 1], [0, 0], [0, LOSS, 0], [0, WIN, 0]])

    def test_a_wrong_position_comes_before_an_unknown_one(self):
        for rounds in (0, 40):
            self.check([take(RACE), solve(rounds), value([8, 0]), value([0, 2]), value([0]), value([TOP, TOP])],
                       [[0], [0, 1 if rounds == 0 else 0], [-2], [-2], [-2], [-2]])

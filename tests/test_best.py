"""The calls best and line: promise 2, best moves keep what they promise."""

from tests.helper import (
    DRAW, GameTest, LOSS, OFF, PASS, Rules, WIN, area, ask_each, best, first_best, game, kind, king, line,
    made_up_games, rook, solve, take,
)

RACE = game(area(6, 1), [kind([(1, 0, 2, 1)], 0, [5])], [(0, 0)], 0, 1)
ROOK_HUNT = game(area(3, 3), [king(), rook()], [(0, 0), (1, 0), (0, 1)], 1)
CHASE = game(area(4, 3), [king(), rook(1, (), 1)], [(0, 0), (1, 1)], 1)
GAMES = [RACE, ROOK_HUNT, CHASE] + made_up_games(25)


class HandWorkedTest(GameTest):
    def test_the_shortest_win_and_the_first_of_several(self):
        # Five steps to go: one or two at first both win in five; three to go: only two steps win in three.
        self.check([take(RACE), solve(40)] + [best([square, 0]) for square in range(5)],
                   [[0], [0, 0], [0, WIN, 1], [0, WIN, 3], [0, WIN, 3], [0, WIN, 5], [0, WIN, 5]])

    def test_a_line_to_the_end(self):
        self.check([take(RACE), solve(40), line([0, 0]), line([0, 1]), line([4, 0]), line([5, 0]), line([5, 1])],
                   [[0], [0, 0], [0, 5, 1, PASS, 3, PASS, 5], [0, 6, PASS, 1, PASS, 3, PASS, 5], [0, 1, 5],
                    [0, 0], [0, 0]])

    def test_a_loss_is_put_off(self):
        # Side 1 may step into the taker's reach or to the edge, where it is taken later.
        told = game(area(4, 1), [rook(0, (), 1), rook(1, (), 1)], [(0, 0), (1, 1)])
        self.check([take(told), solve(40), best([0, 2, 1]), line([0, 2, 1])],
                   [[0], [0, 0], [0, LOSS, 256 + 3], [0, 4, 259, 1, 258, 2]])

    def test_the_best_move_of_a_draw_leads_to_a_draw(self):
        # To step next to the other king loses; of the moves that don't, the first.
        told = game(area(3, 3), [king()], [(0, 0), (0, 1)])
        self.check([take(told), solve(40), best([0, 18, 0]), best([1, 17, 0])],
                   [[0], [0, 0], [0, DRAW, 1], [0, DRAW, 2]])


class RefusalTest(GameTest):
    TOLD = game(area(3, 3), [king()], [(0, 0), (0, 1)])
    AT_END = ([0, OFF, 0], [0, OFF, 1], [OFF, OFF, 0])

    def test_not_solved_comes_before_an_end_and_a_draw(self):
        rows = self.AT_END + ([0, 18, 0], [0, 1, 0])
        for rounds in (0, 1, 2):
            calls = [best(row) for row in rows] + [line(row) for row in rows]
            self.check([take(self.TOLD), solve(rounds)] + calls, [[0], [0, 1]] + [[-3]] * 10)

    def test_at_its_end_there_is_no_best_move(self):
        self.check([take(self.TOLD), solve(40)] + [best(row) for row in self.AT_END], [[0], [0, 0]] + [[-6]] * 3)

    def test_a_stuck_side_is_at_its_end(self):
        for stuck, wanted in ((0, [0, 0]), (1, [-7]), (2, [0, 0])):
            told = game(area(2, 1), [kind()], [(0, 0)], stuck)
            self.check([take(told), solve(40), best([0, 0]), line([0, 0])], [[0], [0, 0], [-6], wanted])

    def test_a_draw_has_no_line(self):
        self.check([take(self.TOLD), solve(40), line([0, 18, 0]), line([OFF, OFF, 1]), line([0, OFF, 0])],
                   [[0], [0, 0], [-7], [-7], [0, 0]])

    def test_a_wrong_position_comes_first(self):
        for rounds in (0, 40):
            calls = [call(row) for call in (best, line) for row in ([0, 0, 0], [0, 18], [0, 18, 2], [3, OFF, 0])]
            self.check([take(self.TOLD), solve(rounds)] + calls, [[0], [0, 1 if rounds == 0 else 0]] + [[-2]] * 8)


class EveryPositionTest(GameTest):
    def test_the_first_move_that_keeps_the_count(self):
        for told in GAMES:
            rules = Rules(told)
            values = rules.values()
            wanted = [[0, values[row][0], first_best(rules, values, row)] if rules.moves(row) else [-6] for row in values]
            self.assertEqual(ask_each(told, 40, [best(row) for row in values]), wanted)

    def test_lines_are_moves_and_as_long_as_the_count(self):
        for told in GAMES:
            rules = Rules(told)
            values = rules.values()
            rows = list(values)[::5]
            for row, found in zip(rows, ask_each(told, 40, [line(row) for row in rows])):
                self.check_line(rules, values, row, found)

    def check_line(self, rules, values, row, found):
        outcome, count = values[row]
        if outcome == DRAW:
            self.assertEqual(found, [-7])
            return
        self.assertEqual(found[:2], [0, count])
        self.assertEqual(len(found), 2 + count)
        for move in found[2:]:
            self.assertEqual(move, first_best(rules, values, row))
            row = rules.after(row, move)
        last = outcome if count % 2 == 0 else WIN + LOSS - outcome
        self.assertEqual(rules.ending(row), last)


class KeptPromiseTest(GameTest):
    """Whoever has a win in n and plays best moves wins within n, whatever the other side does."""

    def test_against_every_answer(self):
        for told in (ROOK_HUNT, CHASE) + tuple(made_up_games(8)):
            rules = Rules(told)
            values = rules.values()
            won = [row for row in values if values[row][0] == WIN and rules.moves(row)]
            given = ask_each(told, 40, [best(row) for row in won])
            moves = {row: found[2] for row, found in zip(won, given)}
            longest = {}
            for row in won:
                self.assertEqual(self.longest_fight(rules, moves, row, longest, 40), values[row][1])

    def longest_fight(self, rules, moves, row, longest, left):
        """How many moves it takes the side that plays best moves to win, if the other holds out longest."""
        self.assertGreater(left, 0)
        if row not in longest:
            after = rules.after(row, moves[row])
            if rules.ending(after) is not None:
                self.assertEqual(rules.ending(after), LOSS)
                longest[row] = 1
            else:
                fights = []
                for answer in rules.moves(after):
                    answered = rules.after(after, answer)
                    if rules.ending(answered) is not None:
                        self.assertEqual(rules.ending(answered), WIN)
                        fights.append(2)
                    else:
                        fights.append(2 + self.longest_fight(rules, moves, answered, longest, left - 2))
                longest[row] = max(fights)
        return longest[row]

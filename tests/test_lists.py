"""Lists in which calls of every number stand between games and rounds: promise 3, and what a refusal leaves alone."""

from tests.helper import (
    GameTest, Numbers, OFF, PASS, Rules, TOP, area, ask, best, game, game_bytes, index, judge, kind, king, least, line,
    longest, made_up_game, many, match, moves, next_from, play, pos, rook, solve, table, table_bytes, take, turns, value,
)

RACE = game(area(4, 1), [kind([(1, 0, 1, 1)], 0, [3])], [(0, 0)], 0, 1)
KINGS = game(area(3, 3), [king()], [(0, 0), (0, 1)])
STUCK = game([0, 1], [kind()], [(0, 0), (0, 1)], 1)
CHASE = game(area(4, 1), [rook(0, (), 1), rook(1, (), 1)], [(0, 0), (1, 1)])
TOO_LARGE = game(area(8, 8), [king()], [(0, 0), (0, 1)])

KINGS_TABLE = table_bytes(Rules(KINGS), Rules(KINGS).values())

# Each call on the two kings: what it answers before the game is solved, and then.
ON_KINGS = (
    (many(3), [-2], [-2]), (many(TOP, TOP), [-2], [-2]), (many(1, 0), [-3], [0, 18]), (many(2, TOP), [-3], [0, 0]),
    (next_from(0, 3), [-2], [-2]), (next_from(TOP, 3), [-2], [-2]), (next_from(TOP, 1), [-3], [-1]),
    (next_from(0, 1, TOP), [-3], [-1]), (next_from(199, 0), [-3], [0, 199]), (next_from(200, 0), [-3], [-1]),
    (longest(0), [-2], [-2]), (longest(3), [-2], [-2]), (longest(TOP), [-2], [-2]), (longest(1), [-3], [0, 1]),
    (turns(), [0, 17], [0, 17]),
    (least([0, 0, 0]), [-2], [-2]), (least([0, 1]), [-2], [-2]), (least([0, 1, 2]), [-2], [-2]),
    (least([0, 8, 1]), [0, 4, 3, 0, 1, 1], [0, 4, 3, 0, 1, 1]),
    (table(), [-3], [0, 50] + KINGS_TABLE),
    (judge(KINGS_TABLE), [-3], [0, 0]), (judge([]), [-3], [-1]), (judge([0] * 50), [-3], [0, 1, 0]),
    (judge([0] * 51), [-3], [-1]),
    (match(2, 0, [0, 1, 0]), [-2], [-2]), (match(0, 0, [0, 0, 0]), [-2], [-2]), (match(2, 0, [0]), [-2], [-2]),
    (match(0, 40, [0, 1, 0]), [-3], [0, 1, 1, 3, 1, OFF, 1]), (match(1, 40, [0, 1, 0]), [-3], [0, 3, 0, 3, 0, 1, 0]),
    (match(0, 0, [OFF, OFF, 0]), [-3], [0, 0, 0, 3, OFF, OFF, 0]),
)


class RefusalOrderTest(GameTest):
    def test_with_no_game(self):
        for call, early, late in ON_KINGS:
            self.check([call], [[-4]])
            self.check([take([9]), call, take(TOO_LARGE), call], [[-1, 0], [-4], [-2], [-4]])

    def test_with_a_game_that_is_not_solved(self):
        for call, early, late in ON_KINGS:
            self.check([take(KINGS), call, solve(0), call, solve(1), call, solve(1), call],
                       [[0], early, [0, 1], early, [0, 1], early, [0, 1], early])

    def test_with_a_game_that_is_solved(self):
        for call, early, late in ON_KINGS:
            self.check([take(KINGS), solve(3), call, solve(5), call], [[0], [0, 0], late, [0, 0], late])

    def test_a_refused_game_changes_nothing(self):
        for call, early, late in ON_KINGS:
            self.check([take(KINGS), take([]), call, solve(3), take(TOO_LARGE), call, take(game_bytes(RACE) + [0]), call],
                       [[0], [-1, 0], early, [0, 0], [-2], late, [-1, 28], late])

    def test_a_new_game_is_not_solved(self):
        for call, early, late in ON_KINGS:
            self.check([take(RACE), solve(20), take(KINGS), call, solve(3), call, take(KINGS), call],
                       [[0], [0, 0], [0], early, [0, 0], late, [0], early])

    def test_a_refused_call_changes_nothing(self):
        for call, early, late in ON_KINGS:
            self.check([take(KINGS), call, value([0, 1, 0]), solve(2), call, value([0, 1, 0]), solve(1), call,
                        value([0, 1, 0]), value([0, 18, 0])],
                       [[0], early, [-3], [0, 1], early, [0, 1, 1], [0, 0], late, [0, 1, 1], [0, 0, 0]])


class AllKnownTest(GameTest):
    """A game is solved by a round in which nothing new was known, not by all values being known."""

    def test_all_is_known_but_the_game_is_not_solved(self):
        # Each of the six positions is a loss in 0, and known after the first round.
        told = game(area(2, 1), [kind()], [(0, 0)], 0)
        row = [0, 0]
        asked = [best(row), line(row), many(2), many(0), next_from(0, 2), next_from(6, 2), longest(2), longest(1), table(),
                 judge([170, 10]), judge([]), match(0, 40, row)]
        self.check([take(told), solve(1), value(row)] + asked, [[0], [0, 1], [0, 2, 0]] + [[-3]] * 12)
        self.check([take(told), solve(2), value(row)] + asked,
                   [[0], [0, 0], [0, 2, 0], [-6], [0, 0], [0, 6], [0, 0], [0, 0], [-1], [0, 0], [-1], [0, 2, 170, 10],
                    [0, 0], [-1], [0, 2, 0, 2, 0, 0]])


class CutRoundsTest(GameTest):
    """Promise 3 for what is told of a solved game."""

    def test_the_same_wherever_the_rounds_are_cut(self):
        asked = [many(0), many(1, 1), next_from(1, 2, 2), longest(1), longest(2), table(), match(0, 9, [0, 1, 0], [259])]
        whole = ask(take(CHASE), solve(20), *asked)[2:]
        for cut in range(21):
            found = ask(take(CHASE), solve(cut), table(), solve(20 - cut), *asked)
            self.assertEqual(found[4:], whole)
        found = ask(take(CHASE), *[solve(3)] * 7, *asked)
        self.assertEqual(found[8:], whole)


class MadeUpListTest(GameTest):
    """Each call answers as it does when it is asked alone, on the last game that was taken and as many rounds."""

    GAMES = [RACE, KINGS, STUCK, CHASE] + [made_up_game(seed) for seed in (2, 5, 9, 14)]

    def made_up_row(self, numbers, told):
        places = told["board"] + [OFF]
        row = [places[numbers.below(len(places))] for piece in told["pieces"]] + [numbers.below(2)]
        if numbers.below(8) == 0:
            row[numbers.below(len(row))] = (OFF, 65, TOP, 2)[numbers.below(4)]
        return row

    def made_up_move(self, numbers, told, row):
        """A move of the position, or what is none."""
        found = ask(take(told), moves(row))[1][2:]
        return (found + [row[0]])[numbers.below(len(found) + 1)]

    def made_up_call(self, numbers, told):
        row = self.made_up_row(numbers, told)
        move = self.made_up_move(numbers, told, row)
        what, count, start = numbers.below(4), numbers.below(3), numbers.below(30)
        given = [numbers.below(256) for byte in range(Rules(told).count // 4 + numbers.below(2))]
        calls = (index(row), pos(start), value(row), moves(row), play(move, row), best(row), line(row),
                 many(what, count), next_from(start, what, count), longest(what), turns(), least(row), table(),
                 judge(given), judge(KINGS_TABLE), match(what % 3, numbers.below(41), row, [move, PASS, move]))
        return calls[numbers.below(len(calls))]

    def made_up_list(self, numbers):
        """A list of calls, and for each how it would be asked alone."""
        calls, alone = [], []
        told, taken, rounds, left = self.GAMES[numbers.below(8)], [], 0, 40
        while len(calls) < 16:
            before = [taken, solve(rounds)] if taken else []
            turn = numbers.below(12)
            if turn == 0:
                told = self.GAMES[numbers.below(8)]
                call = take(told)
                taken, rounds = call, 0
            elif turn == 1:
                call = take(([], [1], game_bytes(told) + [1], game_bytes(TOO_LARGE))[numbers.below(4)])
            elif turn < 4:
                more = min(left, (0, 1, 2, 12)[numbers.below(4)])
                call = solve(more)
                left -= more
                rounds += more if taken else 0
            else:
                call = self.made_up_call(numbers, told)
            calls.append(call)
            alone.append(before + [call])
        return calls, alone

    def test_each_answers_as_if_it_were_asked_alone(self):
        numbers = Numbers(21)
        firsts = set()
        for turn in range(250):
            calls, alone = self.made_up_list(numbers)
            found = ask(*calls)
            self.assertEqual(found, [ask(*one)[-1] for one in alone])
            firsts |= {(call[0], one[0]) for call, one in zip(calls, found)}
        self.assertEqual({call for call, first in firsts if first == 0}, set(range(1, 18)))
        self.assertEqual({call for call, first in firsts if first == -4}, set(range(2, 18)))
        self.assertEqual({call for call, first in firsts if first == -3}, {5, 8, 9, 10, 11, 12, 15, 16, 17})
        self.assertEqual({call for call, first in firsts if first == -2},
                         {1, 3, 4, 5, 6, 7, 8, 9, 10, 11, 12, 14, 17})
        self.assertEqual({call for call, first in firsts if first == -1}, {1, 11, 12, 16})

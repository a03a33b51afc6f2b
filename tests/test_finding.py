"""The calls many, next and longest, against a count over all right positions."""

from tests.helper import (
    DRAW, GameTest, LOSS, OFF, Rules, TOP, WIN, area, ask_each, game, kind, king, longest, made_up_games, many,
    next_from, rook, solve, take,
)

# A piece steps along four squares to its goal; the other side can only pass.
RACE = game(area(4, 1), [kind([(1, 0, 1, 1)], 0, [3])], [(0, 0)], 0, 1)
DRAWS = game(area(2, 1), [kind()], [(0, 0)], 1)
WINS = game(area(2, 1), [kind()], [(0, 0)], 2)
LOSSES = game(area(2, 1), [kind()], [(0, 0)], 0)
ROOK_HUNT = game(area(3, 3), [king(), rook()], [(0, 0), (1, 0), (0, 1)], 1)
CHASE = game(area(4, 3), [king(), rook(1, (), 1)], [(0, 0), (1, 1)], 1)
GAMES = [RACE, DRAWS, WINS, LOSSES, ROOK_HUNT, CHASE] + made_up_games(25)


def numbers_by_value(told):
    """The numbers of the right positions by their value, and N."""
    rules = Rules(told)
    values = rules.values()
    found = {}
    for number, row in rules.rows().items():
        found.setdefault(values[row], []).append(number)
    return found, rules.count


def asked_values(numbers):
    """The values that there are, and some that there are not."""
    counts = sorted({count for outcome, count in numbers})
    return [(outcome, count) for outcome in (WIN, LOSS) for count in counts + [counts[-1] + 1, TOP]] + [(DRAW, 0)]


class HandWorkedTest(GameTest):
    def test_how_many(self):
        # Side 0 wins from square 3 in 0, from 2 in 1, from 1 in 3, from 0 in 5; side 1 loses in 0, 2, 4, 6.
        self.check([take(RACE), solve(40)] + [many(WIN, count) for count in range(7)] + [many(LOSS, 0), many(LOSS, 6)],
                   [[0], [0, 0], [0, 1], [0, 1], [0, 0], [0, 1], [0, 0], [0, 1], [0, 0], [0, 1], [0, 1]])
        self.check([take(RACE), solve(40), many(DRAW, 0)], [[0], [0, 0], [0, 2]])

    def test_the_first_from_a_number_on(self):
        # Numbers: side + 2 * square, 8 and 9 for the piece that is off.
        self.check([take(RACE), solve(40), next_from(0, WIN, 1), next_from(4, WIN, 1), next_from(5, WIN, 1),
                    next_from(0, DRAW), next_from(8, DRAW), next_from(9, DRAW), next_from(10, DRAW),
                    next_from(0, LOSS, 6), next_from(1, LOSS, 6), next_from(2, LOSS, 6)],
                   [[0], [0, 0], [0, 4], [0, 4], [-1], [0, 8], [0, 8], [0, 9], [-1], [0, 1], [0, 1], [-1]])

    def test_the_longest(self):
        self.check([take(RACE), solve(40), longest(WIN), longest(LOSS)], [[0], [0, 0], [0, 5], [0, 6]])

    def test_where_there_is_none(self):
        for told, wins, losses in ((DRAWS, [-1], [-1]), (WINS, [0, 0], [-1]), (LOSSES, [-1], [0, 0])):
            self.check([take(told), solve(40), longest(WIN), longest(LOSS)], [[0], [0, 0], wins, losses])
        self.check([take(WINS), solve(40), many(DRAW), many(LOSS), many(WIN), many(WIN, 1),
                    next_from(0, DRAW), next_from(0, LOSS), next_from(0, WIN), next_from(0, WIN, 1)],
                   [[0], [0, 0], [0, 0], [0, 0], [0, 6], [0, 0], [-1], [-1], [0, 0], [-1]])

    def test_a_longest_loss_may_be_shorter_than_a_longest_win(self):
        told = game(area(4, 1), [rook(0, (), 1), rook(1, (), 1)], [(0, 0), (1, 1)])
        counts = {outcome: max(count for other, count in Rules(told).values().values() if other == outcome)
                  for outcome in (WIN, LOSS)}
        self.assertNotEqual(counts[WIN], counts[LOSS])
        self.check([take(told), solve(40), longest(WIN), longest(LOSS)],
                   [[0], [0, 0], [0, counts[WIN]], [0, counts[LOSS]]])


class DrawCountTest(GameTest):
    """Of draws the count is not looked at."""

    def test_any_count_is_the_same(self):
        counts = (0, 1, 2, 40, TOP)
        self.check([take(RACE), solve(40)] + [many(DRAW, count) for count in counts], [[0], [0, 0]] + [[0, 2]] * 5)
        self.check([take(RACE), solve(40)] + [next_from(9, DRAW, count) for count in counts], [[0], [0, 0]] + [[0, 9]] * 5)
        self.check([take(RACE), solve(40)] + [next_from(10, DRAW, count) for count in counts], [[0], [0, 0]] + [[-1]] * 5)

    def test_of_wins_and_losses_it_is(self):
        self.check([take(RACE), solve(40), many(WIN, TOP), many(LOSS, TOP), next_from(0, WIN, TOP), next_from(0, LOSS, 1)],
                   [[0], [0, 0], [0, 0], [0, 0], [-1], [-1]])


class EveryPositionTest(GameTest):
    def test_how_many(self):
        for told in GAMES:
            numbers, total = numbers_by_value(told)
            asked = asked_values(numbers)
            found = ask_each(told, 40, [many(outcome, count) for outcome, count in asked])
            self.assertEqual(found, [[0, len(numbers.get(one, []))] for one in asked])
            self.assertEqual(sum(one[1] for one in found), sum(len(one) for one in numbers.values()))

    def test_the_first_from_a_number_on(self):
        for told in GAMES:
            numbers, total = numbers_by_value(told)
            calls, wanted = [], []
            for place, (outcome, count) in enumerate(asked_values(numbers)):
                having = numbers.get((outcome, count), [])
                starts = {0, total - 1, total, total + 1, TOP, place * total // 7 % total}
                starts |= {number + step for number in having[:2] + having[-1:] for step in (0, 1)}
                for start in sorted(starts):
                    calls.append(next_from(start, outcome, count))
                    wanted.append([0, min(one for one in having if one >= start)] if having and start <= having[-1] else [-1])
            self.assertEqual(ask_each(told, 40, calls), wanted)

    def test_every_number_is_found_from_the_one_before(self):
        for told in [RACE, CHASE] + made_up_games(4):
            numbers, total = numbers_by_value(told)
            for (outcome, count), having in list(numbers.items())[:6]:
                starts = [0] + [number + 1 for number in having]
                found = ask_each(told, 40, [next_from(start, outcome, count) for start in starts])
                self.assertEqual(found, [[0, number] for number in having] + [[-1]])

    def test_the_longest(self):
        for told in GAMES:
            numbers, total = numbers_by_value(told)
            wanted = []
            for outcome in (WIN, LOSS):
                counts = [count for other, count in numbers if other == outcome]
                wanted.append([0, max(counts)] if counts else [-1])
            self.assertEqual(ask_each(told, 40, [longest(WIN), longest(LOSS)]), wanted)

    def test_positions_that_are_not_right_are_not_counted(self):
        # Of 2 * 3 * 3 numbers four are of two pieces on one square; the rest are stuck and so lost.
        told = game([0, 1], [kind()], [(0, 0), (0, 1)])
        self.check([take(told), solve(40), many(LOSS, 0), many(DRAW), next_from(0, LOSS), next_from(3, LOSS)],
                   [[0], [0, 0], [0, 14], [0, 0], [0, 2], [0, 3]])
        # The same of draws: a piece that is off counts, two on one square do not.
        told = game([0, 1], [kind()], [(0, 0), (0, 1)], 1)
        self.check([take(told), solve(40), many(DRAW), many(LOSS), next_from(0, DRAW), next_from(8, DRAW)],
                   [[0], [0, 0], [0, 14], [0, 0], [0, 2], [0, 10]])


class RefusalTest(GameTest):
    def test_what_there_is_none_of(self):
        for rounds, solved in ((0, 1), (3, 1), (40, 0)):
            for what in (3, 4, 256, TOP):
                self.check([take(RACE), solve(rounds), many(what, 0), many(what, TOP), next_from(0, what, 0),
                            next_from(TOP, what, TOP), longest(what)], [[0], [0, solved]] + [[-2]] * 5)
            self.check([take(RACE), solve(rounds), longest(0)], [[0], [0, solved], [-2]])

    def test_not_solved_comes_before_none_found(self):
        # The race's longest is 6, so its seventh round finds the last and the eighth nothing.
        for rounds in (0, 1, 6, 7):
            self.check([take(RACE), solve(rounds), many(DRAW), many(WIN, 0), many(LOSS, TOP), next_from(0, WIN, 0),
                        next_from(TOP, DRAW), longest(WIN), longest(LOSS)], [[0], [0, 1]] + [[-3]] * 7)
        self.check([take(RACE), solve(8), many(DRAW), longest(LOSS)], [[0], [0, 0], [0, 2], [0, 6]])
        self.check([take(DRAWS), longest(WIN), next_from(0, WIN), solve(1), longest(WIN), next_from(0, WIN)],
                   [[0], [-3], [-3], [0, 0], [-1], [-1]])

    def test_an_off_piece_is_no_fault_here(self):
        self.check([take(RACE), solve(40), next_from(2 * 4, DRAW), [4, 8]], [[0], [0, 0], [0, 8], [0, 2, OFF, 0]])

"""The call match: promise 2, best moves keep what they promise, played out."""

from tests.helper import (
    DRAW, GameTest, LOSS, Numbers, OFF, PASS, Rules, TOP, WIN, area, ask_each, first_best, game, kind, king,
    made_up_games, match, rook, solve, take,
)

# One piece steps along six squares, one or two a move, to its goal; the other side can only pass.
RACE = game(area(6, 1), [kind([(1, 0, 2, 1)], 0, [5])], [(0, 0)], 0, 1)
# Both step towards one another on a row of five; who cannot step has lost.
MEETING = game(area(5, 1), [kind([(1, 0, 1, 1)]), kind([(-1, 0, 1, 1)])], [(0, 0), (1, 1)])
KINGS = game(area(3, 3), [king()], [(0, 0), (0, 1)])
ROOK_HUNT = game(area(3, 3), [king(), rook()], [(0, 0), (1, 0), (0, 1)], 1)
CHASE = game(area(4, 3), [king(), rook(1, (), 1)], [(0, 0), (1, 1)], 1)
GAMES = [RACE, MEETING, KINGS, ROOK_HUNT, CHASE] + made_up_games(25)
NO_REPLY = 3


def played(rules, values, side, most, row, replies):
    """What match answers, by the document's words."""
    made = 0
    left = list(replies)
    while rules.ending(row) is None and made < most:
        if row[-1] == side:
            move = first_best(rules, values, row)
        elif not left or left[0] not in rules.moves(row):
            return [0, NO_REPLY, made, len(row)] + list(row)
        else:
            move = left.pop(0)
        row = rules.after(row, move)
        made += 1
    result = 0
    if rules.ending(row) in (WIN, LOSS):
        winner = row[-1] if rules.ending(row) == WIN else 1 - row[-1]
        result = 1 if winner == side else 2
    return [0, result, made, len(row)] + list(row)


class HandWorkedTest(GameTest):
    def check_match(self, told, call, wanted):
        self.check([take(told), solve(40), call], [[0], [0, 0], [0] + wanted])

    def test_the_side_wins(self):
        self.check_match(RACE, match(0, 40, [0, 0], [PASS, PASS]), [1, 5, 2, 5, 1])

    def test_the_other_side_begins(self):
        self.check_match(RACE, match(0, 40, [0, 1], [PASS] * 3), [1, 6, 2, 5, 1])

    def test_the_side_loses(self):
        # Side 1 can only pass, and side 0 goes as it is told.
        self.check_match(RACE, match(1, 40, [0, 0], [2, 4, 5]), [2, 5, 2, 5, 1])
        self.check_match(RACE, match(1, 40, [0, 1], [1, 3, 5]), [2, 6, 2, 5, 1])

    def test_either_side_of_one_position(self):
        # From 0 and 4 to move: 1, then 3, then 2, and side 1 is stuck.
        self.check_match(MEETING, match(0, 40, [0, 4, 0], [256 + 3]), [1, 3, 3, 2, 3, 1])
        self.check_match(MEETING, match(1, 40, [0, 4, 0], [1, 2]), [2, 3, 3, 2, 3, 1])
        self.check_match(MEETING, match(1, 40, [0, 4, 1], [1]), [1, 3, 3, 1, 2, 0])
        self.check_match(MEETING, match(0, 40, [0, 4, 1], [256 + 3, 256 + 2]), [2, 3, 3, 1, 2, 0])

    def test_a_bad_reply_is_made_use_of(self):
        # The other king steps next to this one and is taken.
        self.check_match(KINGS, match(0, 40, [0, 18, 1], [256 + 9]), [1, 2, 3, 9, OFF, 1])

    def test_a_draw_at_its_end(self):
        told = game(area(5, 1), [kind([(1, 0, 1, 1)]), kind([(-1, 0, 1, 1)])], [(0, 0), (1, 1)], 1)
        self.check_match(told, match(0, 40, [0, 4, 0], [256 + 3, 7]), [0, 3, 3, 2, 3, 1])
        self.check_match(told, match(1, 40, [0, 4, 0], [1, 2, 7]), [0, 3, 3, 2, 3, 1])
        self.check_match(KINGS, match(0, 40, [OFF, OFF, 1]), [0, 0, 3, OFF, OFF, 1])

    def test_so_many_moves_were_made(self):
        self.check_match(KINGS, match(0, 5, [0, 18, 0], [256 + 17, 256 + 18, 256 + 17]), [0, 5, 3, 1, 18, 1])


class MostTest(GameTest):
    def test_none_at_all(self):
        self.check([take(RACE), solve(40), match(0, 0, [0, 0]), match(0, 0, [0, 1]), match(1, 0, [0, 0], [1]),
                    match(1, 0, [0, 1])],
                   [[0], [0, 0], [0, 0, 0, 2, 0, 0], [0, 0, 0, 2, 0, 1], [0, 0, 0, 2, 0, 0], [0, 0, 0, 2, 0, 1]])

    def test_none_at_all_from_an_end(self):
        self.check([take(RACE), solve(40), match(0, 0, [5, 0]), match(0, 0, [5, 1]), match(1, 0, [5, 0]),
                    match(1, 0, [5, 1])],
                   [[0], [0, 0], [0, 1, 0, 2, 5, 0], [0, 1, 0, 2, 5, 1], [0, 2, 0, 2, 5, 0], [0, 2, 0, 2, 5, 1]])

    def test_from_an_end_no_move_is_made(self):
        self.check([take(MEETING), solve(40), match(0, 40, [2, 3, 1], [258]), match(1, 40, [2, 3, 1], [258]),
                    match(0, 40, [2, 3, 0]), match(1, 40, [2, 3, 0], [3])],
                   [[0], [0, 0], [0, 1, 0, 3, 2, 3, 1], [0, 2, 0, 3, 2, 3, 1], [0, 2, 0, 3, 2, 3, 0],
                    [0, 1, 0, 3, 2, 3, 0]])

    def test_every_most(self):
        for most in range(9):
            squares = [0, 1, 1, 3, 3, 5]
            made = min(most, 5)
            wanted = [0, 1 if most >= 5 else 0, made, 2, squares[made], made % 2]
            self.check_last([take(RACE), solve(40), match(0, most, [0, 0], [PASS] * 4)], wanted)

    def test_an_end_with_just_the_last_move(self):
        self.check([take(RACE), solve(40), match(0, 1, [4, 0]), match(1, 1, [4, 0], [5]), match(0, 2, [4, 1], [PASS]),
                    match(1, 2, [4, 1], [5])],
                   [[0], [0, 0], [0, 1, 1, 2, 5, 1], [0, 2, 1, 2, 5, 1], [0, 1, 2, 2, 5, 1], [0, 2, 2, 2, 5, 1]])
        told = game(area(5, 1), [kind([(1, 0, 1, 1)]), kind([(-1, 0, 1, 1)])], [(0, 0), (1, 1)], 1)
        self.check_last([take(told), solve(40), match(0, 1, [2, 4, 0])], [0, 0, 1, 3, 3, 4, 1])

    def test_when_all_moves_are_made_no_reply_is_asked_for(self):
        self.check([take(RACE), solve(40), match(0, 1, [0, 0]), match(0, 1, [0, 0], [77]), match(0, 2, [0, 0]),
                    match(0, 2, [0, 0], [PASS])],
                   [[0], [0, 0], [0, 0, 1, 2, 1, 1], [0, 0, 1, 2, 1, 1], [0, 3, 1, 2, 1, 1], [0, 0, 2, 2, 1, 0]])


class ReplyTest(GameTest):
    def test_no_reply_at_all(self):
        self.check([take(RACE), solve(40), match(0, 40, [0, 0]), match(0, 40, [0, 1]), match(1, 40, [0, 0]),
                    match(1, 40, [0, 1])],
                   [[0], [0, 0], [0, 3, 1, 2, 1, 1], [0, 3, 0, 2, 0, 1], [0, 3, 0, 2, 0, 0], [0, 3, 1, 2, 0, 0]])

    def test_replies_run_out(self):
        self.check([take(RACE), solve(40), match(0, 40, [0, 0], [PASS]), match(1, 40, [0, 0], [1]),
                    match(1, 40, [0, 0], [1, 2, 3])],
                   [[0], [0, 0], [0, 3, 3, 2, 3, 1], [0, 3, 2, 2, 1, 0], [0, 3, 6, 2, 3, 0]])

    def test_replies_that_are_no_moves(self):
        for reply in (0, 3, 6, 64, 255, 256, 257, 65534, 65536, TOP):
            self.check([take(RACE), solve(40), match(1, 40, [0, 0], [reply]), match(1, 40, [0, 0], [reply, 1, 2]),
                        match(1, 40, [0, 0], [1, reply if reply != 3 else 4, 5])],
                       [[0], [0, 0], [0, 3, 0, 2, 0, 0], [0, 3, 0, 2, 0, 0], [0, 3, 2, 2, 1, 0]])

    def test_the_pass_where_there_is_none(self):
        self.check_last([take(MEETING), solve(40), match(0, 40, [0, 4, 1], [PASS])], [0, 3, 0, 3, 0, 4, 1])

    def test_the_pass_where_there_is_one(self):
        self.check_last([take(RACE), solve(40), match(1, 40, [3, 0], [PASS, PASS, 5])], [0, 2, 5, 2, 5, 1])

    def test_a_reply_with_a_piece_of_the_wrong_side(self):
        self.check_last([take(MEETING), solve(40), match(0, 40, [0, 4, 1], [1])], [0, 3, 0, 3, 0, 4, 1])

    def test_replies_left_over_are_not_looked_at(self):
        for rest in ([], [0], [TOP] * 100, [PASS] * 1998):
            self.check_last([take(RACE), solve(40), match(0, 40, [0, 0], [PASS, PASS] + rest)], [0, 1, 5, 2, 5, 1])
            self.check_last([take(RACE), solve(40), match(0, 40, [5, 0], rest)], [0, 1, 0, 2, 5, 0])
            self.check_last([take(RACE), solve(40), match(1, 2, [0, 0], [2] + rest)], [0, 0, 2, 2, 2, 0])

    def test_a_side_of_no_pieces(self):
        told = game(area(3, 1), [rook(0, (), 1)], [(0, 0)], 1, 1)
        self.check_last([take(told), solve(40), match(1, 40, [0, 1], [1, 2, 1])], [0, 3, 7, 2, 1, 0])


class RefusalTest(GameTest):
    def test_no_such_side(self):
        for rounds, solved in ((0, 1), (40, 0)):
            self.check([take(RACE), solve(rounds)] + [match(side, 40, [0, 0]) for side in (2, 3, 255, TOP)],
                       [[0], [0, solved]] + [[-2]] * 4)

    def test_a_position_that_is_not_right(self):
        rows = ([0, 0, 0], [0, 4], [], [0, 4, 2], [5, 4, 0], [0, 65, 0], [TOP] * 3, [0] * 100)
        for rounds, solved in ((0, 1), (40, 0)):
            for side in (0, 1, 2):
                self.check([take(MEETING), solve(rounds)] + [match(side, 0, row, [1]) for row in rows],
                           [[0], [0, solved]] + [[-2]] * 8)

    def test_not_solved(self):
        # The race's longest is 6, so the eighth round is the first that finds nothing.
        for rounds in (0, 1, 7):
            self.check([take(RACE), solve(rounds), match(0, 40, [0, 0], [PASS] * 3), match(1, 0, [0, 0]),
                        match(0, 40, [5, 0]), match(0, 40, [0, 1], [TOP])], [[0], [0, 1]] + [[-3]] * 4)
        self.check_last([take(RACE), solve(8), match(0, 40, [0, 0], [PASS] * 3)], [0, 1, 5, 2, 5, 1])


class MadeUpTest(GameTest):
    def replies(self, numbers, rules, values, side, row):
        """Replies that fit for a while, by playing the match with any of them, and then perhaps one that doesn't."""
        found = []
        for turn in range(numbers.below(60)):
            if rules.ending(row) is not None:
                break
            if row[-1] == side:
                move = first_best(rules, values, row)
            else:
                moves = rules.moves(row)
                move = moves[numbers.below(len(moves))]
                found.append(move)
            row = rules.after(row, move)
        if numbers.below(4) == 0:
            found.append((0, PASS, 256 + row[0], TOP)[numbers.below(4)])
        return found

    def test_as_the_document_tells(self):
        numbers = Numbers(3)
        results = set()
        for told in GAMES:
            rules = Rules(told)
            values = rules.values()
            rows = list(values)
            calls, wanted = [], []
            for turn in range(56):
                row = rows[numbers.below(len(rows))]
                side = numbers.below(2)
                most = (40, numbers.below(41), numbers.below(8), 40)[numbers.below(4)]
                replies = self.replies(numbers, rules, values, side, row)
                calls.append(match(side, most, row, replies))
                wanted.append(played(rules, values, side, most, row, replies))
                results.add(wanted[-1][1])
            self.assertEqual(ask_each(told, 40, calls), wanted)
        self.assertEqual(results, {0, 1, 2, 3})

    def test_whoever_has_a_win_wins_in_time(self):
        numbers = Numbers(4)
        for told in GAMES:
            rules = Rules(told)
            values = rules.values()
            rows = [row for row in values if values[row][0] == WIN]
            calls, counts = [], []
            for row in rows[::1 + len(rows) // 28]:
                counts.append(values[row][1])
                calls.append(match(row[-1], values[row][1], row, self.full_replies(numbers, rules, values, row)))
            for count, found in zip(counts, ask_each(told, 40, calls)):
                self.assertEqual(found[:2], [0, 1])
                self.assertLessEqual(found[2], count)

    def full_replies(self, numbers, rules, values, row):
        """Replies to the very end."""
        found = []
        side = row[-1]
        while rules.ending(row) is None:
            moves = rules.moves(row)
            move = first_best(rules, values, row) if row[-1] == side else moves[numbers.below(len(moves))]
            if row[-1] != side:
                found.append(move)
            row = rules.after(row, move)
        return found

    def test_a_loss_is_put_off_as_long_as_told(self):
        for told in GAMES:
            rules = Rules(told)
            values = rules.values()
            rows = [row for row in values if values[row][0] == LOSS]
            calls, counts = [], []
            for row in rows[::1 + len(rows) // 28]:
                counts.append(values[row][1])
                calls.append(match(row[-1], 40, row, self.best_replies(rules, values, row)))
            for count, found in zip(counts, ask_each(told, 40, calls)):
                self.assertEqual(found[:3], [0, 2, count])

    def best_replies(self, rules, values, row):
        """The best moves of the side that wins, against the other's best."""
        found = []
        side = row[-1]
        while rules.ending(row) is None:
            move = first_best(rules, values, row)
            if row[-1] != side:
                found.append(move)
            row = rules.after(row, move)
        return found

    def test_a_draw_is_not_lost(self):
        numbers = Numbers(8)
        for told in GAMES:
            rules = Rules(told)
            values = rules.values()
            rows = [row for row in values if values[row][0] == DRAW]
            calls = []
            for row in rows[::1 + len(rows) // 28]:
                calls.append(match(row[-1], 40, row, self.replies(numbers, rules, values, row[-1], row)))
            self.assertTrue(all(found[:2] in ([0, 0], [0, 1], [0, 3]) for found in ask_each(told, 40, calls)))

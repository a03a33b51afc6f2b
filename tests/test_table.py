"""The calls table and judge: promise 6, any bytes may be handed in as a table."""

from tests.helper import (
    DRAW, GameTest, LOSS, Numbers, Rules, WIN, area, ask, ask_each, game, game_bytes, judge, kind, king,
    made_up_games, rook, solve, table, table_bytes, take, value,
)

# A piece steps along four squares to its goal; the other side can only pass: ten numbers, so two of them in the
# last byte, and four bits past the last.
RACE = game(area(4, 1), [kind([(1, 0, 1, 1)], 0, [3])], [(0, 0)], 0, 1)
RACE_TABLE = [0b10011001, 0b10011001, 0b00000000]

# Both pieces are stuck and so lost, but where both stand on one square: eighteen numbers.
STUCK = game([0, 1], [kind()], [(0, 0), (0, 1)])
STUCK_TABLE = [0b10101111, 0b10101010, 0b10101111, 0b10101010, 0b00001010]

# Eight numbers fill their bytes.
FULL = game(area(3, 1), [kind()], [(0, 0)], 2)
FULL_TABLE = [0b01010101, 0b01010101]

ROOK_HUNT = game(area(3, 3), [king(), rook()], [(0, 0), (1, 0), (0, 1)], 1)
CHASE = game(area(4, 3), [king(), rook(1, (), 1)], [(0, 0), (1, 1)], 1)
LARGEST = game(area(8, 3) + area(8, 4)[24:31], [king()], [(0, 0), (0, 1)], 0)
GAMES = [RACE, STUCK, FULL, ROOK_HUNT, CHASE] + made_up_games(25)


def told_of(given, number):
    """What a table tells of a number."""
    return given[number // 4] // (1, 4, 16, 64)[number % 4] % 4


def with_other(given, number, code):
    """A table that tells something else of a number."""
    other = list(given)
    other[number // 4] += (code - told_of(given, number)) * (1, 4, 16, 64)[number % 4]
    return other


def judged(right, total, given):
    """What judge answers, by the document's words."""
    if len(given) != len(right):
        return [-1]
    wrong = [number for number in range(total) if told_of(given, number) != told_of(right, number)]
    if wrong:
        return [0, 1, wrong[0]]
    return [0, 0] if given == right else [0, 1, total]


class TableTest(GameTest):
    def test_hand_worked(self):
        for told, wanted in ((RACE, RACE_TABLE), (STUCK, STUCK_TABLE), (FULL, FULL_TABLE)):
            self.check([take(told), solve(40), table()], [[0], [0, 0], [0, len(wanted)] + wanted])

    def test_each_outcome(self):
        for stuck, code in ((0, LOSS), (1, DRAW), (2, WIN)):
            told = game(area(2, 1), [kind()], [(0, 0)], stuck)
            self.check([take(told), solve(40), table()], [[0], [0, 0], [0, 2, 85 * code, 5 * code]])

    def test_made_up_games(self):
        for told in GAMES:
            rules = Rules(told)
            wanted = table_bytes(rules, rules.values())
            self.assertEqual(len(wanted), -(-rules.count // 4))
            self.check([take(told), solve(40), table(), judge(wanted)],
                       [[0], [0, 0], [0, len(wanted)] + wanted, [0, 0]])

    def test_it_tells_what_value_tells(self):
        for told in (RACE, STUCK, CHASE):
            given = ask(take(told), solve(40), table())[2][2:]
            rows = Rules(told).rows()
            found = ask_each(told, 40, [value(row) for row in rows.values()])
            self.assertEqual([told_of(given, number) for number in rows], [one[1] for one in found])

    def test_the_largest(self):
        found = ask(take(LARGEST), solve(40), table())[2]
        self.assertEqual(found[:2], [0, 512])
        self.assertEqual(len(found), 514)
        self.check([take(LARGEST), solve(40), judge(found[2:])], [[0], [0, 0], [0, 0]])

    def test_not_solved(self):
        # The race's longest is 6, so the eighth round is the first that finds nothing.
        for rounds in (0, 1, 7):
            self.check([take(RACE), solve(rounds), table()], [[0], [0, 1], [-3]])
        self.check([take(RACE), solve(8), table()], [[0], [0, 0], [0, 3] + RACE_TABLE])


class JudgeTest(GameTest):
    def check_judged(self, told, tables):
        rules = Rules(told)
        right = table_bytes(rules, rules.values())
        wanted = [judged(right, rules.count, given) for given in tables]
        self.assertEqual(ask_each(told, 40, [judge(given) for given in tables]), wanted)

    def test_every_number_told_wrong_in_every_way(self):
        for told, right, total in ((RACE, RACE_TABLE, 10), (STUCK, STUCK_TABLE, 18), (FULL, FULL_TABLE, 8)):
            calls, wanted = [], []
            for number in range(total):
                for code in (0, 1, 2, 3):
                    calls.append(judge(with_other(right, number, code)))
                    wanted.append([0, 0] if code == told_of(right, number) else [0, 1, number])
            self.assertEqual(ask_each(told, 40, calls), wanted)

    def test_the_first_of_several(self):
        wrong = with_other(with_other(RACE_TABLE, 9, 3), 2, 0)
        self.check([take(RACE), solve(40), judge(wrong), judge(with_other(wrong, 1, 1)), judge(with_other(wrong, 0, 3))],
                   [[0], [0, 0], [0, 1, 2], [0, 1, 1], [0, 1, 0]])

    def test_bits_past_the_last_alone(self):
        for bits in (16, 32, 48, 64, 128, 240):
            self.check([take(RACE), solve(40), judge(RACE_TABLE[:2] + [bits])], [[0], [0, 0], [0, 1, 10]])
            self.check([take(STUCK), solve(40), judge(STUCK_TABLE[:4] + [10 + bits])], [[0], [0, 0], [0, 1, 18]])

    def test_bits_past_the_last_beside_a_wrong_number(self):
        self.check([take(RACE), solve(40), judge(RACE_TABLE[:2] + [16 + 4]), judge([0b10011010, 0b10011001, 240])],
                   [[0], [0, 0], [0, 1, 9], [0, 1, 0]])

    def test_another_count_of_bytes(self):
        for told, right in ((RACE, RACE_TABLE), (STUCK, STUCK_TABLE), (FULL, FULL_TABLE)):
            self.check([take(told), solve(40), judge([]), judge(right[:-1]), judge(right + [0]), judge(right + right),
                        judge([0] * 2000), judge([255] * (len(right) + 1)), judge([9]), judge(right)],
                       [[0], [0, 0]] + [[-1]] * 7 + [[0, 0]])

    def test_any_bytes(self):
        numbers = Numbers(7)
        for told in (RACE, STUCK, FULL, made_up_games(1)[0]):
            right = table_bytes(Rules(told), Rules(told).values())
            tables = [[numbers.below(256) for byte in right] for turn in range(20)]
            tables += [[numbers.below(256) for byte in range(numbers.below(2 * len(right)))] for turn in range(20)]
            tables += [[byte] * len(right) for byte in (0, 1, 2, 3, 85, 170, 255)]
            self.check_judged(told, tables)

    def test_one_byte_wrong_anywhere(self):
        numbers = Numbers(11)
        for told in (ROOK_HUNT, CHASE) + tuple(made_up_games(8)):
            right = table_bytes(Rules(told), Rules(told).values())
            tables = []
            for turn in range(14):
                other = list(right)
                other[numbers.below(len(right))] = numbers.below(256)
                tables.append(other)
            tables.append(right[:-1] + [right[-1] ^ 64])
            tables.append([right[0] ^ 1] + right[1:])
            self.check_judged(told, tables)

    def test_not_solved_comes_before_another_count(self):
        for rounds in (0, 1, 7):
            self.check([take(RACE), solve(rounds), judge(RACE_TABLE), judge([]), judge([0] * 2000)],
                       [[0], [0, 1], [-3], [-3], [-3]])

    def test_the_table_of_another_game(self):
        other = game(area(4, 1), [kind([(1, 0, 1, 1)], 0, [2])], [(0, 0)], 0, 1)
        rules = Rules(other)
        given = table_bytes(rules, rules.values())
        self.check([take(RACE), solve(40), judge(given), take(other), solve(0), judge(given)],
                   [[0], [0, 0], judged(RACE_TABLE, 10, given), [0], [0, 1], [-3]])

    def test_games_and_tables_of_any_bytes_in_one_list(self):
        numbers = Numbers(5)
        for turn in range(60):
            given = game_bytes(RACE)
            given[numbers.below(len(given))] = numbers.below(256)
            tables = [[numbers.below(256) for byte in range(numbers.below(9))] for call in range(8)]
            found = ask(take(RACE), solve(8), take(given), *[judge(one) for one in tables])
            if found[2] != [0]:
                self.assertEqual(found[3:], [judged(RACE_TABLE, 10, one) for one in tables])
            else:
                self.assertEqual(found[3:], [[-3]] * 8)

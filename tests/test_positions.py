"""The calls index and pos: promise 4, numbers and positions are one thing."""

from tests.helper import GameTest, OFF, Rules, TOP, ask_each, game, index, kind, made_up_games, pos, take

HOLED = game([1, 8, 9, 63], [kind()], [(0, 0), (0, 1), (0, 1)])


class NumberTest(GameTest):
    def test_numbers_by_the_formula(self):
        self.check([take(HOLED)] + [index(row) for row in (
            [1, 8, 9, 0], [1, 8, 9, 1], [OFF, 8, 9, 0], [1, OFF, 9, 0], [1, 8, OFF, 1], [OFF, OFF, OFF, 1],
            [63, 9, 8, 0])], [[0], [0, 2 * (0 + 5 * 1 + 25 * 2)], [0, 2 * (0 + 5 * 1 + 25 * 2) + 1],
                              [0, 2 * (4 + 5 * 1 + 25 * 2)], [0, 2 * (0 + 5 * 4 + 25 * 2)],
                              [0, 2 * (0 + 5 * 1 + 25 * 4) + 1], [0, 249], [0, 2 * (3 + 5 * 2 + 25 * 1)]])

    def test_six_pieces(self):
        told = game([5, 60], [kind()], [(0, 0)] * 6)
        row = [OFF, 5, OFF, OFF, 60, OFF, 1]
        number = 1 + 2 * (2 + 3 * 0 + 9 * 2 + 27 * 2 + 81 * 1 + 243 * 2)
        self.check([take(told), index(row), pos(number)], [[0], [0, number], [0, 7] + row])

    def test_one_undoes_the_other_at_every_number(self):
        for told in [HOLED, game([3], [kind()], [(0, 1)])] + made_up_games(6):
            rules = Rules(told)
            rows = rules.rows()
            numbers = list(range(rules.count + 3))
            wanted = [[0, len(rows[number])] + list(rows[number]) if number in rows else [-2] for number in numbers]
            self.assertEqual(ask_each(told, 0, [pos(number) for number in numbers]), wanted)
            self.assertEqual(ask_each(told, 0, [index(row) for row in rows.values()]), [[0, number] for number in rows])


class WrongPositionTest(GameTest):
    def check_wrong(self, *rows):
        self.check([take(HOLED)] + [index(row) for row in rows], [[0]] + [[-2]] * len(rows))

    def test_two_pieces_on_one_square(self):
        self.check_wrong([1, 1, 9, 0], [8, 1, 8, 1], [OFF, 63, 63, 0], [9, 9, 9, 0])
        self.check([take(HOLED), index([OFF, OFF, 9, 0])], [[0], [0, 2 * (4 + 20 + 50)]])

    def test_a_square_that_is_not_of_the_board(self):
        self.check_wrong([0, 8, 9, 0], [1, 10, 9, 0], [1, 8, 62, 0], [1, 8, 65, 0], [1, 8, 128, 0], [TOP, 8, 9, 0])

    def test_a_side_above_one(self):
        self.check_wrong([1, 8, 9, 2], [1, 8, 9, 64], [1, 8, 9, TOP])

    def test_another_count_of_numbers(self):
        self.check_wrong([], [0], [1, 8, 0], [1, 8, 9], [1, 8, 9, 0, 0], [1, 8, 9, 63, 0], [1, 8, 9, OFF, 1],
                         [1, 8, 9] + [0] * 97)

    def test_numbers_that_have_no_position(self):
        self.check([take(HOLED), pos(250), pos(251), pos(TOP), pos(249)],
                   [[0], [-2], [-2], [-2], [0, 4, OFF, OFF, OFF, 1]])

    def test_numbers_of_positions_that_are_not_right(self):
        # Pieces 0 and 1 both on square 1; pieces 1 and 2 both on square 8.
        self.check([take(HOLED), pos(0), pos(2 * (0 + 0 + 25 * 2)), pos(2 * (0 + 5 + 25) + 1)],
                   [[0], [-2], [-2], [-2]])

"""How calls are written, what they give back, and what the function leaves alone."""

import io
import sys
import unittest
from contextlib import redirect_stderr, redirect_stdout

from endsolver.games import answers
from tests.helper import (
    GameTest, OFF, PASS, TOP, area, ask, best, game, index, judge, kind, king, least, line, longest, made_up_games,
    many, match, moves, next_from, play, pos, solve, table, take, turns, value,
)

RACE = game(area(4, 1), [kind([(1, 0, 1, 1)], 0, [3])], [(0, 0)], 0, 1)


def all_calls(told, row):
    """Sixteen calls, the numbers 1 to 9 among them."""
    return [take(told), value(row), solve(2), index(row), pos(3), value(row), moves(row), play(PASS, row), best(row),
            solve(38), value(row), best(row), line(row), take([1]), value(row), index(row)]


def all_later_calls(told, row):
    """Sixteen calls, the numbers 10 to 17 among them."""
    return [take(told), turns(), least(row), table(), solve(40), many(1, 1), next_from(1, 0, 0), longest(2), turns(),
            least(row), table(), judge([153, 153, 0]), judge([153, 157, 0]), match(0, 40, row, [PASS, PASS]),
            match(1, 1, row, []), judge([])]


def together(calls):
    return [number for call in calls for number in call]


class FormTest(unittest.TestCase):
    def test_every_number_of_a_list(self):
        calls = together(all_calls(RACE, [1, 0]))
        self.assertEqual(answers(calls), [
            1, 0,
            1, -3,
            2, 0, 1,
            2, 0, 2,
            4, 0, 2, 1, 1,
            1, -3,
            4, 0, 2, 2, 65535,
            4, 0, 2, 1, 1,
            1, -3,
            2, 0, 0,
            3, 0, 1, 3,
            3, 0, 1, 2,
            5, 0, 3, 2, 65535, 3,
            2, -1, 1,
            3, 0, 1, 3,
            2, 0, 2,
        ])

    def test_every_number_of_another_list(self):
        self.assertEqual(answers(together(all_later_calls(RACE, [1, 0]))), [
            1, 0,
            2, 0, 1,
            5, 0, 0, 2, 1, 0,
            1, -3,
            2, 0, 0,
            2, 0, 1,
            2, 0, 8,
            2, 0, 6,
            2, 0, 1,
            5, 0, 0, 2, 1, 0,
            5, 0, 3, 153, 153, 0,
            2, 0, 0,
            3, 0, 1, 5,
            6, 0, 1, 3, 2, 3, 1,
            6, 0, 3, 0, 2, 1, 0,
            1, -1,
        ])

    def test_empty_rows_in_and_out(self):
        self.assertEqual(answers([1, 0]), [2, -1, 0])
        self.assertEqual(answers(take(RACE) + [3, 0, 6, 2, 3, 0]), [1, 0, 1, -2, 2, 0, 0])
        self.assertEqual(answers(take(RACE) + solve(40) + [14, 0, 16, 0, 17, 0, 9, 0, 0, 17, 0, 9, 2, 3, 0, 0]),
                         [1, 0, 2, 0, 0, 1, -2, 1, -1, 1, -2, 6, 0, 1, 0, 2, 3, 0])

    def test_a_line_of_its_end_is_an_empty_row(self):
        self.assertEqual(answers(take(RACE) + solve(40) + line([3, 0])), [1, 0, 2, 0, 0, 2, 0, 0])

    def test_what_is_given_back_is_a_list_of_whole_numbers(self):
        for calls in (all_calls(RACE, [1, 0]), all_later_calls(RACE, [1, 0])):
            found = answers(together(calls))
            self.assertIs(type(found), list)
            self.assertEqual({type(number) for number in found}, {int})


class NoGameTest(GameTest):
    def test_there_is_no_game_at_the_beginning(self):
        calls = [solve(0), solve(40), index([0, 0]), pos(0), value([0, 0]), moves([0, 0]), play(PASS, [0, 0]),
                 best([0, 0]), line([0, 0])]
        self.check(calls, [[-4]] * 9)
        calls = [many(1, 1), next_from(0, 0, 0), longest(1), turns(), least([0, 0]), table(), judge([153, 153, 0]),
                 match(0, 40, [0, 0], [PASS])]
        self.check(calls, [[-4]] * 8)

    def test_no_game_comes_before_every_other_refusal(self):
        wrong = [TOP] * 100
        calls = [index(wrong), pos(TOP), value(wrong), moves([]), play(TOP, wrong), best(wrong), line([])]
        self.check(calls, [[-4]] * 7)
        calls = [many(3, 0), next_from(TOP, TOP, TOP), longest(0), least(wrong), least([]), judge([]), judge([0] * 2000),
                 match(2, 0, wrong), match(0, 40, [])]
        self.check(calls, [[-4]] * 9)

    def test_a_refused_game_is_still_none(self):
        self.check([take([]), solve(1), take(RACE), solve(1)], [[-1, 0], [-4], [0], [0, 1]])

    def test_rounds_without_a_game_are_not_done_later(self):
        self.check([solve(40), take(RACE), value([3, 0]), solve(0)], [[-4], [0], [-3], [0, 1]])


class LeftAloneTest(GameTest):
    def lists(self):
        for told in [RACE] + made_up_games(10):
            row = [OFF] * len(told["pieces"]) + [0]
            yield together(all_calls(told, row))
            yield together(all_later_calls(told, row))
            row[0] = told["board"][0]
            yield together(all_calls(told, row))
            yield together(all_later_calls(told, row))

    def test_what_is_handed_in_is_not_changed(self):
        for calls in self.lists():
            before = list(calls)
            answers(calls)
            self.assertEqual(calls, before)

    def test_a_second_time_gives_the_same(self):
        for calls in self.lists():
            first = answers(calls)
            kept = list(first)
            first.append(77)
            self.assertEqual(answers(calls), kept)

    def test_a_refusal_given_back_is_not_kept(self):
        first = answers(solve(1) + take([]))
        first[1] = 99
        first.append(77)
        self.assertEqual(answers(solve(1) + take([])), [1, -4, 2, -1, 0])

    def test_nothing_is_kept_for_the_next_list(self):
        answers(take(RACE) + solve(40))
        self.check([value([0, 0])], [[-4]])
        self.check([take(RACE), value([2, 0])], [[0], [-3]])

    def test_nothing_is_printed(self):
        out, err = io.StringIO(), io.StringIO()
        with redirect_stdout(out), redirect_stderr(err):
            for calls in self.lists():
                answers(calls)
        self.assertEqual(out.getvalue() + err.getvalue(), "")


class LargeListTest(GameTest):
    LARGEST = game(area(8, 3) + area(8, 4)[24:31], [king()], [(0, 0), (0, 1)], 0)

    def test_a_list_of_large_games(self):
        found = ask(*[call for turn in range(8) for call in (take(self.LARGEST), solve(5))])
        self.assertEqual(found, [[0], [0, 0]] * 8)

    def test_a_list_of_large_tables(self):
        found = ask(take(self.LARGEST), solve(5), table(), *[judge([85] * 2000)] * 13)
        self.assertEqual([len(one) for one in found], [1, 2, 514] + [1] * 13)
        found = ask(take(self.LARGEST), solve(5), *[table()] * 14)
        self.assertEqual(found[3:], [found[2]] * 13)

    def test_a_list_of_large_matches(self):
        found = ask(take(self.LARGEST), solve(5), *[match(0, 40, [0, 30, 1], [256 + 29, 256 + 30] * 1000)] * 14)
        self.assertEqual(found[2:], [[0, 0, 40, 3] + found[2][4:]] * 14)

    def test_rows_of_a_hundred_numbers(self):
        self.check([take(RACE)] + [value([0] * 100)] * 15, [[0]] + [[-2]] * 15)

    def test_few_calls_stand_within_one_another(self):
        depth = 0
        frame = sys._getframe()
        while frame is not None:
            depth += 1
            frame = frame.f_back
        limit = sys.getrecursionlimit()
        sys.setrecursionlimit(depth + 40)
        try:
            found = answers(take(self.LARGEST) + solve(40) + line([0, 1, 0]) + many(0) + match(1, 40, [0, 1, 1], [0]))
        finally:
            sys.setrecursionlimit(limit)
        self.assertEqual(found[:9], [1, 0, 2, 0, 0, 3, 0, 1, 1])
        self.assertEqual(found[12:], [7, 0, 1, 1, 3, OFF, 0, 0])

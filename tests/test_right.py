"""Tests of right: points 1 and 2 of the document, and what it says ahead of them."""

import unittest

from smallwishes.puzzles import right
from tests.helper import (
    GATES, GREATEST_KIND, GREATEST_NUMBER, KINDS, THREE_KINDS, TOO_LARGE, WISH_KINDS, WRONG,
    judged_right, lists_of, row_of, small_puzzles, wrong_calls,
)

YES = [1]
NO = [0]


class RightSolutions(unittest.TestCase):

    def check(self, c, n, rows, s, answer):
        got = right(c, row_of(n, rows), s)
        self.assertEqual(got, answer, (c, n, rows, s))
        self.assertEqual([type(number) for number in got], [int])

    def test_wishes(self):
        rows = [[0, 3], [2, 4, 7, 8], [1]]
        self.check(0, 5, rows, [0, 0, 1, 1, 0], YES)
        self.check(0, 5, rows, [0, 1, 1, 1, 0], NO)
        self.check(0, 5, rows, [0, 0, 0, 1, 0], NO)
        self.check(0, 5, rows, [1, 1, 1, 1, 1], NO)

    def test_threes(self):
        rows = [[0, 2, 4], [1, 3], [5]]
        self.check(1, 3, rows, [1, 0, 0], YES)
        self.check(1, 3, rows, [0, 1, 0], YES)
        self.check(1, 3, rows, [1, 1, 0], NO)
        self.check(1, 3, rows, [0, 0, 0], NO)
        self.check(1, 3, [[0, 2, 4]], [1, 1, 1], YES)

    def test_just_one(self):
        rows = [[0, 2, 4]]
        for s in lists_of(3):
            self.check(2, 3, rows, s, YES if sum(s) == 1 else NO)
        self.check(2, 3, [[0, 3, 5]], [0, 0, 1], YES)
        self.check(2, 3, [[0, 3, 5]], [0, 0, 0], NO)
        self.check(2, 3, [[0, 2], [1, 5]], [1, 0, 0], YES)
        self.check(2, 3, [[0, 2], [1, 5]], [0, 1, 0], NO)

    def test_not_all_alike(self):
        rows = [[0, 2, 4]]
        for s in lists_of(3):
            self.check(3, 3, rows, s, YES if sum(s) in (1, 2) else NO)
        self.check(3, 3, [[0, 3, 4]], [1, 0, 1], NO)
        self.check(3, 3, [[0, 3, 4]], [0, 1, 0], NO)
        self.check(3, 3, [[0, 3, 4]], [1, 1, 1], YES)
        self.check(3, 3, [[0, 2], [2, 4]], [1, 0, 1], YES)
        self.check(3, 3, [[0, 2], [2, 4]], [1, 0, 0], NO)

    def test_not_all_alike_stays_with_all_flags_turned(self):
        rows = [[0, 2, 5], [3, 4, 7], [1, 6]]
        for s in lists_of(4):
            turned = [1 - number for number in s]
            self.assertEqual(right(3, row_of(4, rows), s), right(3, row_of(4, rows), turned))

    def test_gates(self):
        # Up if just one of lines 0 and 1 is and line 2 isn't.
        rows = [[4, 0, 1], [1, 2, 0], [2, 3, 4]]
        for s in lists_of(3):
            self.check(GATES, 3, rows, s, YES if s[0] != s[1] and s[2] == 0 else NO)

    def test_each_gate_up_and_down(self):
        tables = {0: (0, 0, 0, 0), 2: (0, 0, 0, 1), 3: (0, 1, 1, 1), 4: (0, 1, 1, 0)}
        for work, table in tables.items():
            gate = [work, 0, 1 if work else 0]
            for s, up in zip(lists_of(2), table):
                self.check(GATES, 2, [gate], s, [up])
        for s in lists_of(2):
            self.check(GATES, 2, [[1, 0, 0]], s, [1 - s[0]])
            self.check(GATES, 2, [[1, 1, 0]], s, [1 - s[1]])

    def test_never_up_turned_is_always_up(self):
        self.check(GATES, 0, [[0, 0, 0]], [], NO)
        self.check(GATES, 0, [[0, 0, 0], [1, 0, 0]], [], YES)

    def test_small_puzzles_as_judged_a_second_time(self):
        for c in KINDS:
            for n, rows in small_puzzles(c):
                p = row_of(n, rows)
                for s in lists_of(n):
                    self.assertEqual(right(c, p, s), [int(judged_right(c, n, rows, s))], (c, p, s))


class WrongSolutions(unittest.TestCase):

    def test_too_long_too_short_or_of_other_numbers(self):
        rows = {c: [[0, 3]] for c in WISH_KINDS}
        good = {0: [1, 1, 0], 1: [1, 1, 0], 2: [1, 1, 0], 3: [1, 1, 0], GATES: [1, 1, 0]}
        rows[GATES] = [[3, 0, 2]]
        for c in KINDS:
            p = row_of(3, rows[c])
            s = good[c]
            self.assertEqual(right(c, p, s), YES)
            wrong = [[], s[:1], s[:2], s + [0], s + [1], s + s, s + [0] * 1997]
            for number in (2, 3, 4294967294, 4294967295):
                wrong += [[number] + s[1:], [s[0], number, s[2]], s[:2] + [number]]
            for bad in wrong:
                self.assertEqual(right(c, p, bad), NO, (c, bad))

    def test_numbers_that_no_row_looks_at(self):
        for c in WISH_KINDS:
            self.assertEqual(right(c, row_of(2), [0, 2]), NO)
            self.assertEqual(right(c, row_of(2), [0]), NO)
            self.assertEqual(right(c, row_of(2), [0, 0, 0]), NO)
        always = [[0, 0, 0], [1, 2, 0]]
        self.assertEqual(right(GATES, row_of(2, always), [0, 0]), YES)
        self.assertEqual(right(GATES, row_of(2, always), [0, 2]), NO)
        # All four lines are told where only the given ones are asked for.
        self.assertEqual(right(GATES, row_of(2, always), [0, 0, 0, 1]), NO)


class Corners(unittest.TestCase):

    def test_an_empty_wish(self):
        for c in WISH_KINDS:
            self.assertEqual(right(c, row_of(0, [[]]), []), NO)
            for s in lists_of(2):
                self.assertEqual(right(c, row_of(2, [[]]), s), NO)
                self.assertEqual(right(c, row_of(2, [[0, 2], []]), s), NO)

    def test_no_wish(self):
        for c in WISH_KINDS:
            for s in lists_of(3):
                self.assertEqual(right(c, row_of(3), s), YES)

    def test_a_wish_of_four(self):
        p = row_of(4, [[0, 3, 4, 7]])
        for s in lists_of(4):
            self.assertEqual(right(0, p, s), NO if s == [0, 1, 0, 1] else YES)
            for c in THREE_KINDS:
                self.assertEqual(right(c, p, s), WRONG)

    def test_a_row_of_one(self):
        for saying, up in ((0, 1), (1, 0)):
            p = row_of(1, [[saying]])
            for c in (0, 1, 2):
                self.assertEqual(right(c, p, [up]), YES)
                self.assertEqual(right(c, p, [1 - up]), NO)
            self.assertEqual(right(3, p, [up]), NO)
            self.assertEqual(right(3, p, [1 - up]), NO)

    def test_no_flag(self):
        for c in WISH_KINDS:
            self.assertEqual(right(c, row_of(0), []), YES)
            self.assertEqual(right(c, row_of(0), [0]), NO)
            self.assertEqual(right(c, row_of(0), [1]), NO)

    def test_no_line_at_all(self):
        self.assertEqual(right(GATES, row_of(0), []), NO)
        self.assertEqual(right(GATES, row_of(0), [1]), NO)

    def test_no_gate(self):
        for s in lists_of(3):
            self.assertEqual(right(GATES, row_of(3), s), [s[2]])

    def test_a_gate_of_twice_the_same_line(self):
        for up in (0, 1):
            self.assertEqual(right(GATES, row_of(1, [[2, 0, 0]]), [up]), [up])
            self.assertEqual(right(GATES, row_of(1, [[3, 0, 0]]), [up]), [up])
            self.assertEqual(right(GATES, row_of(1, [[4, 0, 0]]), [up]), NO)

    def test_gates_that_nothing_looks_at(self):
        rows = [[0, 0, 0], [1, 0, 0], [4, 0, 1], [2, 0, 1]]
        for s in lists_of(2):
            self.assertEqual(right(GATES, row_of(2, rows), s), [s[0] & s[1]])


class Refusals(unittest.TestCase):

    def test_wrong_puzzles(self):
        for c, p in wrong_calls():
            for s in ([], [0], [1, 0, 1], [4294967295] * 2000):
                self.assertEqual(right(c, p, s), WRONG, (c, p))

    def test_size_of_wishes(self):
        for c in WISH_KINDS:
            self.assertEqual(right(c, row_of(1000), [0] * 1000), YES)
            self.assertEqual(right(c, row_of(1001), [0] * 1001), TOO_LARGE)
            # Rows and the numbers in them count: 995 + 2 + 3, and 996 + 2 + 3.
            rows = [[0, 3], [5]]
            # Of not all alike a row of one is never right.
            self.assertEqual(right(c, row_of(995, rows), [0] * 995), NO if c == 3 else YES)
            self.assertEqual(right(c, row_of(996, rows), [0] * 996), TOO_LARGE)
        self.assertEqual(right(0, row_of(999, [[]]), [0] * 999), NO)
        self.assertEqual(right(0, row_of(1000, [[]]), [0] * 1000), TOO_LARGE)

    def test_size_of_gates(self):
        self.assertEqual(right(GATES, row_of(1000), [0] * 999 + [1]), YES)
        self.assertEqual(right(GATES, row_of(1001), [0] * 1000 + [1]), TOO_LARGE)
        self.assertEqual(right(GATES, row_of(996, [[1, 995, 0]]), [0] * 996), YES)
        self.assertEqual(right(GATES, row_of(997, [[1, 996, 0]]), [0] * 997), TOO_LARGE)

    def test_too_large_comes_ahead_of_a_wrong_solution(self):
        for c in KINDS:
            self.assertEqual(right(c, row_of(1001), [2]), TOO_LARGE)

    def test_point_1_comes_ahead_of_point_2(self):
        for c in KINDS:
            self.assertEqual(right(c, row_of(1001, (), 1), []), WRONG)
            self.assertEqual(right(c, row_of(1001) + [1], []), WRONG)
            self.assertEqual(right(c, row_of(1001, [[2, 2]]), []), WRONG)
        for c in THREE_KINDS:
            self.assertEqual(right(c, row_of(1001, [[0, 2, 4, 6]]), []), WRONG)
        self.assertEqual(right(GATES, row_of(1001, [[5, 0, 0]]), []), WRONG)
        self.assertEqual(right(5, row_of(1001), []), WRONG)
        self.assertEqual(right(GREATEST_KIND, row_of(GREATEST_NUMBER), []), WRONG)


class LongestAndGreatest(unittest.TestCase):

    def test_longest_rows(self):
        # 199 wishes of one, 398 numbers behind n and k, so a size of n + 398.
        rows = [[2 * flag] for flag in range(199)]
        for c in (0, 1, 2):
            p = row_of(602, rows)
            self.assertEqual(len(p), 400)
            self.assertEqual(right(c, p, [1] * 602), YES)
            self.assertEqual(right(c, p, [1] * 198 + [0] * 404), NO)
            self.assertEqual(right(c, row_of(603, rows), [1] * 603), TOO_LARGE)
        rows = [[2 * flag, 2 * flag + 2] for flag in range(130)] + [[0, 2, 4], [1, 3, 7]]
        p = row_of(604, rows)
        self.assertEqual(len(p), 400)
        self.assertEqual(right(3, row_of(602, rows), [1, 0] * 301), YES)
        self.assertEqual(right(3, row_of(602, rows), [1, 0] * 65 + [0] * 472), NO)
        self.assertEqual(right(3, row_of(603, rows), [1, 0] * 301), TOO_LARGE)

    def test_longest_wish(self):
        p = row_of(602, [list(range(0, 794, 2))])
        self.assertEqual(len(p), 400)
        self.assertEqual(right(0, p, [0] * 396 + [1] + [0] * 205), YES)
        self.assertEqual(right(0, p, [0] * 397 + [1] * 205), NO)

    def test_empty_rows(self):
        p = row_of(602, [[]] * 398)
        self.assertEqual(len(p), 400)
        self.assertEqual(right(0, p, [1] * 602), NO)
        self.assertEqual(right(GATES, p, [1] * 602), WRONG)

    def test_longest_line_of_gates(self):
        rows = [[1, 603 + number, 0] for number in range(99)]
        p = row_of(604, rows)
        self.assertEqual(len(p), 398)
        self.assertEqual(right(GATES, p, [1] * 603 + [0]), YES)
        self.assertEqual(right(GATES, p, [1] * 604), NO)
        self.assertEqual(right(GATES, row_of(605, rows), [1] * 605), TOO_LARGE)

    def test_longest_and_greatest_solution(self):
        for c in KINDS:
            self.assertEqual(right(c, row_of(3), [4294967295] * 2000), NO)
            self.assertEqual(right(c, row_of(1000), [1] * 2000), NO)
            self.assertEqual(right(c, row_of(2000), [1] * 2000), TOO_LARGE)

    def test_greatest_numbers(self):
        for c in KINDS:
            self.assertEqual(right(c, [GREATEST_NUMBER] * 400, [4294967295] * 2000), WRONG)
            self.assertEqual(right(c, row_of(GREATEST_NUMBER), []), TOO_LARGE)
        for c in WISH_KINDS:
            flags = GREATEST_NUMBER // 2
            self.assertEqual(right(c, row_of(flags + 1, [[GREATEST_NUMBER]]), []), TOO_LARGE)
            self.assertEqual(right(c, row_of(flags, [[GREATEST_NUMBER]]), []), WRONG)
        for work in (2, 3, 4):
            gate = [work, GREATEST_NUMBER, GREATEST_NUMBER]
            self.assertEqual(right(GATES, row_of(GREATEST_NUMBER, [gate]), []), WRONG)
            self.assertEqual(right(GATES, row_of(GREATEST_NUMBER, [[0, 0, 0], gate]), []), TOO_LARGE)

    def test_both_empty(self):
        for c in KINDS + (5, GREATEST_KIND):
            self.assertEqual(right(c, [], []), WRONG)


class NothingKept(unittest.TestCase):

    def test_what_is_handed_in_stays_and_the_answer_too(self):
        calls = [
            (0, row_of(3, [[0, 2, 4], [1]]), [0, 1, 0]),
            (1, row_of(3, [[0, 2, 4], [1]]), [1, 1, 0]),
            (2, row_of(3, [[0, 2, 4]]), [0, 1, 0]),
            (3, row_of(3, [[0, 2, 4]]), [0, 1, 0, 7]),
            (GATES, row_of(2, [[4, 0, 1], [1, 2, 0]]), [1, 1]),
            (GATES, row_of(2, [[4, 1, 0]]), [1, 1]),
            (0, row_of(1001), [1, 1]),
            (0, [], []),
        ]
        answers = [right(c, list(p), list(s)) for c, p, s in calls]
        for (c, p, s), answer in zip(calls, answers):
            p_before = list(p)
            s_before = list(s)
            got = right(c, p, s)
            self.assertEqual((p, s, got), (p_before, s_before, answer))
            got.append(9)
            self.assertEqual(right(c, p, s), answer)

"""Tests of first: points 1 to 4 of the document, and what it says ahead of them."""

import unittest

from smallwishes.puzzles import first, many, right
from tests.helper import (
    GATES, GREATEST_KIND, GREATEST_NUMBER, KINDS, THREE_KINDS, TOO_LARGE, WISH_KINDS, WRONG,
    calls_too_large_to_try, judged_right, lists_of, mixed_calls, row_of, small_puzzles,
    wrong_and_large_calls, wrong_calls,
)

NONE = [-6]


def first_judged(c, n, rows):
    """What is to be answered, as the second judge of right solutions has it."""
    for s in lists_of(n):
        if judged_right(c, n, rows, s):
            return [n] + s
    return NONE


class FirstSolutions(unittest.TestCase):

    def check(self, c, n, rows, answer):
        p = row_of(n, rows)
        got = first(c, p)
        self.assertEqual(got, answer, (c, n, rows))
        self.assertEqual([type(number) for number in got], [int] * len(got))
        self.check_against_right(c, n, p, got)

    def check_against_right(self, c, n, p, got):
        """What is answered is right, and no list ahead of it is; -6 just where many answers 0."""
        self.assertEqual(got == NONE, many(c, p) == [0], (c, p))
        if got == NONE:
            ahead = lists_of(n)
        else:
            self.assertEqual(got[0], n)
            self.assertEqual(right(c, p, got[1:]), [1], (c, p))
            ahead = [s for s in lists_of(n) if s < got[1:]]
        for s in ahead:
            self.assertEqual(right(c, p, s), [0], (c, p, s))

    def test_wishes(self):
        self.check(0, 2, [[0, 2], [0, 3], [1, 2], [1, 3]], NONE)
        self.check(0, 4, [[0, 2, 4, 6], [1], [3], [5]], [4, 0, 0, 0, 1])
        self.check(0, 5, [[0, 2, 4, 6, 8]], [5, 0, 0, 0, 0, 1])
        self.check(0, 3, [[0, 3], [4]], [3, 0, 0, 1])
        self.check(0, 3, [[0, 2], [1, 4]], [3, 0, 1, 0])

    def test_threes(self):
        self.check(1, 1, [[0], [1]], NONE)
        self.check(1, 3, [[0, 2, 4], [3], [5]], [3, 1, 0, 0])
        self.check(1, 3, [[0, 2, 4]], [3, 0, 0, 1])
        self.check(1, 4, [[0, 2, 4], [5, 6]], [4, 0, 0, 1, 1])

    def test_just_one(self):
        self.check(2, 2, [[0, 2], [0, 3]], NONE)
        self.check(2, 3, [[0, 2, 4], [0]], [3, 1, 0, 0])
        self.check(2, 3, [[0, 2, 4]], [3, 0, 0, 1])
        self.check(2, 3, [[1, 3, 5]], [3, 0, 1, 1])

    def test_not_all_alike(self):
        self.check(3, 3, [[0, 2], [2, 4], [0, 4]], NONE)
        # Of flags all turned a right solution is right too, so one alone is had with no flag alone.
        self.check(3, 0, [], [0])
        self.check(3, 3, [[0, 2, 4]], [3, 0, 0, 1])
        self.check(3, 3, [[0, 3, 4]], [3, 0, 0, 0])
        self.check(3, 3, [[0, 2], [2, 4]], [3, 0, 1, 0])

    def test_gates(self):
        self.check(GATES, 2, [[1, 0, 0], [2, 0, 2]], NONE)
        self.check(GATES, 2, [[2, 0, 1]], [2, 1, 1])
        self.check(GATES, 2, [[3, 0, 1]], [2, 0, 1])
        self.check(GATES, 2, [[4, 0, 1], [1, 2, 0]], [2, 0, 0])
        self.check(GATES, 3, [[1, 1, 0], [2, 0, 3]], [3, 1, 0, 0])

    def test_small_puzzles(self):
        for c in KINDS:
            for n, rows in small_puzzles(c):
                self.check(c, n, rows, first_judged(c, n, rows))

    def test_greater_puzzles(self):
        triples = [[0, 5, 9], [2, 4, 13], [3, 8, 10], [7, 12], [1, 6, 11], [2, 15]]
        for c in WISH_KINDS:
            for rows in (triples, triples[:3], triples[2:5]):
                self.check(c, 8, rows, first_judged(c, 8, rows))
        gates = [[4, 0, 7], [3, 1, 8], [2, 2, 9], [1, 10, 0], [4, 5, 11], [3, 6, 12]]
        for length in range(len(gates) + 1):
            self.check(GATES, 8, gates[:length], first_judged(GATES, 8, gates[:length]))

    def test_each_list_as_the_one_right_solution(self):
        for s in lists_of(5):
            wishes = [[2 * flag + 1 - up] for flag, up in enumerate(s)]
            for c in (0, 1, 2):
                self.check(c, 5, wishes, [5] + s)


class Corners(unittest.TestCase):

    def test_an_empty_wish(self):
        for c in WISH_KINDS:
            self.assertEqual(first(c, row_of(0, [[]])), NONE)
            self.assertEqual(first(c, row_of(3, [[]])), NONE)
            self.assertEqual(first(c, row_of(3, [[0, 2], []])), NONE)

    def test_no_wish(self):
        for c in WISH_KINDS:
            for n in range(13):
                self.assertEqual(first(c, row_of(n)), [n] + [0] * n)

    def test_a_wish_of_four(self):
        self.assertEqual(first(0, row_of(4, [[0, 2, 4, 6]])), [4, 0, 0, 0, 1])
        self.assertEqual(first(0, row_of(4, [[0, 3, 4, 7]])), [4, 0, 0, 0, 0])
        for c in THREE_KINDS:
            self.assertEqual(first(c, row_of(4, [[0, 2, 4, 6]])), WRONG)

    def test_a_row_of_one(self):
        for saying, solution in ((0, [1, 0]), (1, [0, 0]), (2, [0, 1]), (3, [0, 0])):
            p = row_of(2, [[saying]])
            for c in (0, 1, 2):
                self.assertEqual(first(c, p), [2] + solution)
            self.assertEqual(first(3, p), NONE)

    def test_no_flag(self):
        for c in WISH_KINDS:
            self.assertEqual(first(c, row_of(0)), [0])
            self.assertEqual(first(c, row_of(0, [[]])), NONE)
        self.assertEqual(first(GATES, row_of(0, [[0, 0, 0]])), NONE)
        self.assertEqual(first(GATES, row_of(0, [[0, 0, 0], [1, 0, 0]])), [0])

    def test_no_line_at_all(self):
        self.assertEqual(first(GATES, row_of(0)), NONE)

    def test_no_gate(self):
        for n in range(1, 13):
            self.assertEqual(first(GATES, row_of(n)), [n] + [0] * (n - 1) + [1])

    def test_a_gate_of_twice_the_same_line(self):
        self.assertEqual(first(GATES, row_of(3, [[2, 1, 1]])), [3, 0, 1, 0])
        self.assertEqual(first(GATES, row_of(3, [[3, 1, 1]])), [3, 0, 1, 0])
        self.assertEqual(first(GATES, row_of(3, [[4, 1, 1]])), NONE)

    def test_gates_that_nothing_looks_at(self):
        rows = [[0, 0, 0], [1, 0, 0], [4, 0, 1], [2, 0, 1]]
        self.assertEqual(first(GATES, row_of(2, rows)), [2, 1, 1])
        self.assertEqual(first(GATES, row_of(5, rows)), [5, 1, 1, 0, 0, 0])


class Refusals(unittest.TestCase):

    def test_wrong_puzzles(self):
        for c, p in wrong_calls():
            self.assertEqual(first(c, p), WRONG, (c, p))

    def test_twelve_numbers(self):
        everyone_up = [[2 * flag] for flag in range(12)]
        for c in (0, 1, 2):
            self.assertEqual(first(c, row_of(12, everyone_up)), [12] + [1] * 12)
        for c in WISH_KINDS:
            self.assertEqual(first(c, row_of(12, [[0, 22]])), [12] + [0] * 11 + [1])
            self.assertEqual(first(c, row_of(12, [[]])), NONE)
        self.assertEqual(first(GATES, row_of(12, [[2, 0, 11]])), [12, 1] + [0] * 10 + [1])
        self.assertEqual(first(GATES, row_of(12, [[0, 0, 0]])), NONE)
        # Lines that gates make aren't told by a solution, so they don't count.
        self.assertEqual(first(GATES, row_of(12, [[0, 0, 0]] * 20 + [[1, 12, 0]])), [12] + [0] * 12)

    def test_too_large(self):
        for c, p in calls_too_large_to_try():
            self.assertEqual(first(c, p), TOO_LARGE, (c, p))

    def test_point_1_comes_ahead_of_point_2(self):
        for c, p in wrong_and_large_calls():
            self.assertEqual(first(c, p), WRONG, (c, p))


class LongestAndGreatest(unittest.TestCase):

    def check_longest(self, c, rows, answer):
        p = row_of(12, rows)
        self.assertEqual(len(p), 400)
        self.assertEqual(first(c, p), answer)

    def test_longest_wishes(self):
        for c in (0, 1, 2):
            self.check_longest(c, [[0, 22]] * 132 + [[2]], [12, 0, 1] + [0] * 9 + [1])
        self.check_longest(3, [[0, 22]] * 130 + [[0, 2, 22]] * 2, [12] + [0] * 11 + [1])
        sayings = [2 * flag for flag in range(12)]
        self.check_longest(0, [sayings] * 30 + [sayings[:7]], [12] + [0] * 6 + [1] + [0] * 5)

    def test_longest_wishes_with_the_last_list_right_or_none(self):
        everyone_up = [[2 * flag] for flag in range(12)]
        for c in (0, 1, 2):
            self.check_longest(c, everyone_up + [[0]] * 187, [12] + [1] * 12)
            self.check_longest(c, everyone_up + [[0]] * 186 + [[1]], NONE)

    def test_empty_rows(self):
        for c in WISH_KINDS:
            self.check_longest(c, [[]] * 398, NONE)
        self.check_longest(GATES, [[]] * 398, WRONG)

    def test_most_gates(self):
        rows = [[2, 0, 1]] + [[2, 2 + number % 10, 12 + number] for number in range(98)]
        p = row_of(12, rows)
        self.assertEqual(len(p), 398)
        self.assertEqual(first(GATES, p), [12] + [1] * 12)
        rows = [[1, 11 + number, 0] for number in range(99)]
        self.assertEqual(first(GATES, row_of(12, rows)), [12] + [0] * 12)

    def test_greatest_numbers(self):
        for c in KINDS + (5, GREATEST_KIND):
            self.assertEqual(first(c, [GREATEST_NUMBER] * 400), WRONG)

    def test_empty(self):
        for c in KINDS + (5, GREATEST_KIND):
            self.assertEqual(first(c, []), WRONG)


class NothingKept(unittest.TestCase):

    def test_what_is_handed_in_stays_and_the_answer_too(self):
        answers = [first(c, list(p)) for c, p in mixed_calls()]
        for (c, p), answer in zip(mixed_calls(), answers):
            before = list(p)
            got = first(c, p)
            self.assertEqual((p, got), (before, answer))
            got[0] = 9
            got.append(9)
            self.assertEqual(first(c, p), answer)

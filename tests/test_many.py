"""Tests of many: points 1 and 2 of the document, and what it says ahead of them."""

import unittest

from smallwishes.puzzles import many, right
from tests.helper import (
    GATES, GREATEST_KIND, GREATEST_NUMBER, KINDS, THREE_KINDS, TOO_LARGE, WISH_KINDS, WRONG,
    calls_too_large_to_try, judged_right, lists_of, mixed_calls, row_of, small_puzzles,
    wrong_and_large_calls, wrong_calls,
)


class Counts(unittest.TestCase):

    def check(self, c, n, rows, count):
        p = row_of(n, rows)
        got = many(c, p)
        self.assertEqual(got, [count], (c, n, rows))
        self.assertEqual([type(number) for number in got], [int])
        self.assertEqual(sum(right(c, p, s)[0] for s in lists_of(n)), count)

    def test_wishes(self):
        self.check(0, 2, [[0, 2], [0, 3], [1, 2], [1, 3]], 0)
        self.check(0, 4, [[0, 2, 4, 6], [1], [3], [5]], 1)
        self.check(0, 5, [[0, 3, 4, 7, 8]], 31)
        self.check(0, 3, [[0, 3], [4]], 3)

    def test_threes(self):
        self.check(1, 1, [[0], [1]], 0)
        self.check(1, 3, [[0, 2, 4], [1], [3]], 1)
        self.check(1, 3, [[0, 2, 4]], 7)
        self.check(1, 4, [[0, 2, 4], [1, 6]], 10)

    def test_just_one(self):
        self.check(2, 2, [[0, 2], [0, 3]], 0)
        self.check(2, 3, [[0, 2, 4], [0]], 1)
        self.check(2, 3, [[0, 2, 4]], 3)
        self.check(2, 4, [[0, 2, 4], [1, 7]], 3)

    def test_not_all_alike(self):
        self.check(3, 3, [[0, 2], [2, 4], [0, 4]], 0)
        self.check(3, 3, [[0, 2, 4]], 6)
        self.check(3, 2, [[0, 2]], 2)
        self.check(3, 4, [[0, 3, 4], [2, 7]], 6)
        # Of n flags a right solution turned is another one, so just one is had with no flag alone.
        self.check(3, 0, [], 1)

    def test_gates(self):
        self.check(GATES, 2, [[1, 0, 0], [2, 0, 2]], 0)
        self.check(GATES, 2, [[2, 0, 1]], 1)
        self.check(GATES, 2, [[3, 0, 1]], 3)
        self.check(GATES, 2, [[4, 0, 1]], 2)
        self.check(GATES, 3, [[1, 1, 0]], 4)
        self.check(GATES, 3, [[0, 0, 0]], 0)

    def test_small_puzzles_against_right(self):
        for c in KINDS:
            for n, rows in small_puzzles(c):
                p = row_of(n, rows)
                count = sum(right(c, p, s)[0] for s in lists_of(n))
                self.assertEqual(many(c, p), [count], (c, p))
                judged = sum(judged_right(c, n, rows, s) for s in lists_of(n))
                self.assertEqual(count, judged, (c, p))

    def test_greater_puzzles_against_right(self):
        triples = [[0, 5, 9], [2, 4, 13], [3, 8, 10], [7, 12], [1, 6, 11], [2, 15]]
        for c in WISH_KINDS:
            for rows in (triples, triples[:3], triples[2:5]):
                p = row_of(8, rows)
                self.assertEqual(many(c, p), [sum(right(c, p, s)[0] for s in lists_of(8))])
        gates = [[4, 0, 7], [3, 1, 8], [2, 2, 9], [1, 10, 0], [4, 5, 11], [3, 6, 12]]
        for length in range(len(gates) + 1):
            p = row_of(8, gates[:length])
            self.assertEqual(many(GATES, p), [sum(right(GATES, p, s)[0] for s in lists_of(8))])


class Corners(unittest.TestCase):

    def test_an_empty_wish(self):
        for c in WISH_KINDS:
            self.assertEqual(many(c, row_of(0, [[]])), [0])
            self.assertEqual(many(c, row_of(3, [[]])), [0])
            self.assertEqual(many(c, row_of(3, [[0, 2], []])), [0])

    def test_no_wish(self):
        for c in WISH_KINDS:
            count = 1
            for n in range(13):
                self.assertEqual(many(c, row_of(n)), [count])
                count *= 2

    def test_a_wish_of_four(self):
        p = row_of(4, [[0, 3, 4, 7]])
        self.assertEqual(many(0, p), [15])
        for c in THREE_KINDS:
            self.assertEqual(many(c, p), WRONG)

    def test_a_row_of_one(self):
        for saying in (0, 1, 2, 3):
            p = row_of(2, [[saying]])
            for c in (0, 1, 2):
                self.assertEqual(many(c, p), [2])
            self.assertEqual(many(3, p), [0])

    def test_no_flag(self):
        for c in WISH_KINDS:
            self.assertEqual(many(c, row_of(0)), [1])
            self.assertEqual(many(c, row_of(0, [[]])), [0])
        self.assertEqual(many(GATES, row_of(0, [[0, 0, 0]])), [0])
        self.assertEqual(many(GATES, row_of(0, [[0, 0, 0], [1, 0, 0]])), [1])

    def test_no_line_at_all(self):
        self.assertEqual(many(GATES, row_of(0)), [0])

    def test_no_gate(self):
        for n in range(1, 6):
            self.assertEqual(many(GATES, row_of(n)), [len(lists_of(n - 1))])

    def test_a_gate_of_twice_the_same_line(self):
        self.assertEqual(many(GATES, row_of(3, [[2, 0, 0]])), [4])
        self.assertEqual(many(GATES, row_of(3, [[3, 0, 0]])), [4])
        self.assertEqual(many(GATES, row_of(3, [[4, 0, 0]])), [0])

    def test_gates_that_nothing_looks_at(self):
        rows = [[0, 0, 0], [1, 0, 0], [4, 0, 1], [2, 0, 1]]
        self.assertEqual(many(GATES, row_of(2, rows)), [1])
        self.assertEqual(many(GATES, row_of(5, rows)), [8])


class Refusals(unittest.TestCase):

    def test_wrong_puzzles(self):
        for c, p in wrong_calls():
            self.assertEqual(many(c, p), WRONG, (c, p))

    def test_how_many_numbers(self):
        for c in WISH_KINDS:
            self.assertEqual(many(c, row_of(12)), [4096])
        self.assertEqual(many(GATES, row_of(12)), [2048])
        self.assertEqual(many(GATES, row_of(12, [[3, 0, 11]])), [3072])
        # Lines that gates make aren't told by a solution, so they don't count.
        self.assertEqual(many(GATES, row_of(12, [[0, 0, 0]] * 20 + [[1, 12, 0]])), [4096])

    def test_too_large(self):
        for c, p in calls_too_large_to_try():
            self.assertEqual(many(c, p), TOO_LARGE, (c, p))

    def test_point_1_comes_ahead_of_point_2(self):
        for c, p in wrong_and_large_calls():
            self.assertEqual(many(c, p), WRONG, (c, p))


class LongestAndGreatest(unittest.TestCase):

    def test_longest_wishes(self):
        rows = [[0, 22]] * 132 + [[2]]
        for c, count in ((0, 3 * 512), (1, 3 * 512), (2, 2 * 512)):
            p = row_of(12, rows)
            self.assertEqual(len(p), 400)
            self.assertEqual(many(c, p), [count])
        rows = [[0, 22]] * 130 + [[0, 2, 22]] * 2
        p = row_of(12, rows)
        self.assertEqual(len(p), 400)
        self.assertEqual(many(3, p), [2048])

    def test_wishes_that_nearly_all_lists_meet(self):
        rows = [[2 * flag for flag in range(12)]] * 30 + [[0, 2, 4, 6, 8, 10, 12]]
        p = row_of(12, rows)
        self.assertEqual(len(p), 400)
        self.assertEqual(many(0, p), [4096 - 32])

    def test_empty_rows(self):
        p = row_of(12, [[]] * 398)
        self.assertEqual(len(p), 400)
        for c in WISH_KINDS:
            self.assertEqual(many(c, p), [0])
        self.assertEqual(many(GATES, p), WRONG)

    def test_most_gates(self):
        rows = [[4, 0, 2]] + [[4, number % 12, 12 + number] for number in range(98)]
        p = row_of(12, rows)
        self.assertEqual(len(p), 398)
        self.assertEqual(many(GATES, p), [2048])
        rows = [[1, 11 + number, 0] for number in range(99)]
        self.assertEqual(many(GATES, row_of(12, rows)), [2048])

    def test_greatest_numbers(self):
        for c in KINDS + (5, GREATEST_KIND):
            self.assertEqual(many(c, [GREATEST_NUMBER] * 400), WRONG)

    def test_empty(self):
        for c in KINDS + (5, GREATEST_KIND):
            self.assertEqual(many(c, []), WRONG)


class NothingKept(unittest.TestCase):

    def test_what_is_handed_in_stays_and_the_answer_too(self):
        answers = [many(c, list(p)) for c, p in mixed_calls()]
        for (c, p), answer in zip(mixed_calls(), answers):
            before = list(p)
            got = many(c, p)
            self.assertEqual((p, got), (before, answer))
            got.append(9)
            self.assertEqual(many(c, p), answer)

"""Tests of home: points 1, 2, 3 and 5 of the document, what it says ahead of them, and the calls together."""

import unittest

from smallwishes.puzzles import first, home, many, right, there, turn
from tests.helper import (
    FROM, GATES, NOT_RIGHT, TO, TURNS, WithSolution,
    judged_right, lists_of, long_puzzles, not_told, parts_of, puzzles_for, right_solutions, row_of, several_rows,
    small_puzzles,
)


def answer_of(s):
    """What home answers if this is the solution that comes home."""
    return [len(s)] + s


def flipped(s):
    """A solution with all flags turned."""
    return [1 - number for number in s]


def turned_solutions(t, p):
    """All right solutions of the puzzle that p is turned into, as the second judge has them."""
    return right_solutions(TO[t], *parts_of(turn(t, p)[1:]))


def one_flag_turned(s):
    """All lists that are as s but for one flag."""
    return [s[:place] + [1 - s[place]] + s[place + 1:] for place in range(len(s))]


class WhatHolds(unittest.TestCase):

    def test_what_comes_home_is_right_and_is_told_by_the_first_numbers(self):
        for t in TURNS:
            come = 0
            for n, rows in puzzles_for(t):
                p = row_of(n, rows)
                for s in turned_solutions(t, p):
                    got = home(t, p, s)
                    self.assertEqual((got[0], len(got)), (n, n + 1), (t, p, s))
                    self.assertEqual(right(FROM[t], p, got[1:]), [1], (t, p, s))
                    self.assertEqual(set(type(number) for number in got), {int})
                    if t != 4:
                        self.assertEqual(got[1:], s[:n], (t, p, s))
                    come += 1
            self.assertGreater(come, 50)

    def test_what_goes_there_comes_home_as_it_was(self):
        for t in TURNS:
            for n, rows in puzzles_for(t):
                p = row_of(n, rows)
                for s in right_solutions(FROM[t], n, rows):
                    self.assertEqual(home(t, p, there(t, p, s)[1:]), answer_of(s), (t, p, s))

    def test_just_as_many_but_by_turn_4(self):
        # In order too: the first n numbers tell of the new flags, so they alone set the order.
        for t in (0, 1, 2, 3, 5, 6, 7):
            for n, rows in puzzles_for(t):
                p = row_of(n, rows)
                come = [home(t, p, s)[1:] for s in turned_solutions(t, p)]
                self.assertEqual(come, right_solutions(FROM[t], n, rows), (t, p))

    def test_by_turn_4_one_has_a_solution_just_if_the_other_has(self):
        for n, rows in puzzles_for(4):
            p = row_of(n, rows)
            come = [tuple(home(4, p, s)[1:]) for s in turned_solutions(4, p)]
            self.assertEqual(sorted(set(come)), [tuple(s) for s in right_solutions(1, n, rows)], p)

    def test_as_first_and_many_tell(self):
        for t in TURNS:
            for n, rows in puzzles_for(t):
                p = row_of(n, rows)
                turned = turn(t, p)[1:]
                if turned[0] > 12:
                    continue
                gone_to = first(TO[t], turned)
                if gone_to == [-6]:
                    self.assertEqual(many(FROM[t], p), [0], (t, p))
                    continue
                come = home(t, p, gone_to[1:])
                self.assertEqual(right(FROM[t], p, come[1:]), [1], (t, p))
                if t != 4:
                    self.assertEqual(come, first(FROM[t], p), (t, p))
                    self.assertEqual(many(TO[t], turned), many(FROM[t], p), (t, p))

    def test_not_all_alike_with_all_flags_turned(self):
        for n, rows in list(small_puzzles(3)) + several_rows(5):
            p = row_of(n, rows)
            for s in right_solutions(3, n, rows):
                self.assertEqual(right(3, p, flipped(s)), [1], (p, s))
                self.assertEqual(home(5, p, flipped(s)), answer_of(flipped(s)))
        for n, rows in puzzles_for(4):
            p = row_of(n, rows)
            for s in turned_solutions(4, p):
                self.assertEqual(home(4, p, flipped(s)), home(4, p, s), (p, s))

    def check_turn_behind_turn(self, p, turns):
        """That each right solution of p goes through all turns and comes home through them as it was."""
        puzzles = [p]
        for t in turns:
            puzzles.append(turn(t, puzzles[-1])[1:])
        self.assertLessEqual(max(len(q) for q in puzzles[:-1]), 400)
        solutions = right_solutions(FROM[turns[0]], *parts_of(p))
        self.assertGreater(len(solutions), 0)
        for s in solutions:
            told = s
            for t, q in zip(turns, puzzles):
                told = there(t, q, told)[1:]
            self.assertTrue(judged_right(TO[turns[-1]], *parts_of(puzzles[-1]), told))
            for t, q in zip(turns[::-1], puzzles[-2::-1]):
                told = home(t, q, told)[1:]
            self.assertEqual(told, s)

    def test_turn_behind_turn(self):
        self.check_turn_behind_turn(row_of(4, [[0, 3, 4, 7], [1, 2]]), [0, 2, 3])
        self.check_turn_behind_turn(row_of(4, [[0, 3, 4, 7], [1, 2]]), [0, 4, 5, 6])
        self.check_turn_behind_turn(row_of(4, [[0, 3, 4, 7], [1, 2]]), [6, 7, 0, 1])
        self.check_turn_behind_turn(row_of(2, [[4, 0, 1], [1, 2, 0]]), [7, 0, 4, 5, 0])
        self.check_turn_behind_turn(row_of(2, [[3, 0, 1]]), [7, 0, 1, 6, 7])


class EachTurn(unittest.TestCase):

    def test_the_answer_number_by_number(self):
        self.assertEqual(home(0, [4, 0, 4, 0, 2, 4, 6], [0, 1, 0, 0, 1]), [4, 0, 1, 0, 0])
        self.assertEqual(home(1, [2, 0, 2, 0, 3], [0, 0]), [2, 0, 0])
        self.assertEqual(home(2, [2, 0, 2, 0, 3], [0, 0, 0, 0, 1]), [2, 0, 0])
        self.assertEqual(home(3, [2, 0, 2, 0, 3], [0, 0]), [2, 0, 0])
        self.assertEqual(home(4, [3, 0, 3, 0, 2, 4], [0, 0, 1, 0, 1]), [3, 0, 0, 1])
        self.assertEqual(home(4, [3, 0, 3, 0, 2, 4], [1, 1, 0, 1, 0]), [3, 0, 0, 1])
        self.assertEqual(home(5, [2, 0, 2, 0, 3], [0, 0]), [2, 0, 0])
        self.assertEqual(home(6, [2, 0, 2, 0, 3], [0, 0]), [2, 0, 0])
        self.assertEqual(home(7, [1, 0, 3, 1, 0, 0], [0, 1]), [1, 0])

    def test_a_flag_is_up_if_it_is_not_as_the_common_one(self):
        seen = set()
        for n, rows in puzzles_for(4):
            p = row_of(n, rows)
            for s in turned_solutions(4, p):
                common = s[n]
                told = [int(number != common) for number in s[:n]]
                self.assertEqual(home(4, p, s), answer_of(told), (p, s))
                seen.update((number, common) for number in s[:n])
        self.assertEqual(len(seen), 4)

    def test_either_way_of_a_rows_own_flag(self):
        # With x met, y not and z met, its own flag may be up or down; it comes home all the same.
        p = row_of(3, [[0, 2, 4]])
        for common in (0, 1):
            s = [number ^ common for number in (1, 0, 1)]
            for u in (0, 1):
                self.assertEqual(home(4, p, s + [common, u]), [3, 1, 0, 1])


class Corners(unittest.TestCase):

    def test_an_empty_wish_has_no_right_solution(self):
        for t in TURNS[:7]:
            for n, rows in ((0, [[]]), (2, [[]]), (2, [[0, 2], []]), (2, [[], [1]])):
                p = row_of(n, rows)
                for s in lists_of(turn(t, p)[1]):
                    self.assertEqual(home(t, p, s), NOT_RIGHT, (t, p, s))

    def test_no_wish(self):
        for n in range(5):
            for s in lists_of(n):
                for t in (0, 1, 2, 3, 5, 6):
                    self.assertEqual(home(t, [n, 0], s), answer_of(s))
                self.assertEqual(home(4, [n, 0], s + [0]), answer_of(s))
                self.assertEqual(home(4, [n, 0], s + [1]), answer_of(flipped(s)))

    def test_a_wish_of_four(self):
        p = row_of(4, [[0, 3, 4, 7]])
        self.assertEqual(home(0, p, [0, 1, 1, 1, 0]), [4, 0, 1, 1, 1])
        self.assertEqual(home(0, p, [1, 1, 0, 1, 1]), [4, 1, 1, 0, 1])
        self.assertEqual(home(0, p, [1, 1, 0, 1, 0]), NOT_RIGHT)
        self.assertEqual(home(0, p, [0, 1, 0, 1, 1]), NOT_RIGHT)
        self.assertEqual(home(6, p, [1, 1, 0, 1]), [4, 1, 1, 0, 1])
        self.assertEqual(home(6, p, [0, 1, 0, 1]), NOT_RIGHT)

    def test_a_row_of_one(self):
        p = row_of(2, [[3]])
        for t in (0, 1, 2, 3, 6):
            self.assertEqual(home(t, p, [1, 0]), [2, 1, 0])
            self.assertEqual(home(t, p, [1, 1]), NOT_RIGHT)
        self.assertEqual(home(4, p, [1, 0, 0]), [2, 1, 0])
        self.assertEqual(home(4, p, [1, 1, 1]), [2, 0, 0])
        self.assertEqual(home(4, p, [1, 1, 0]), NOT_RIGHT)
        self.assertEqual(home(4, p, [1, 0, 1]), NOT_RIGHT)
        for s in lists_of(2):
            self.assertEqual(home(5, p, s), NOT_RIGHT)

    def test_no_flag(self):
        for t in (0, 1, 2, 3, 5, 6):
            self.assertEqual(home(t, [0, 0], []), [0])
        self.assertEqual(home(4, [0, 0], [0]), [0])
        self.assertEqual(home(4, [0, 0], [1]), [0])
        self.assertEqual(home(4, [0, 0], []), NOT_RIGHT)
        self.assertEqual(home(7, row_of(0, [[0, 0, 0], [1, 0, 0]]), [0, 1]), [0])
        for s in ([], [0], [1]):
            self.assertEqual(home(7, row_of(0, [[0, 0, 0]]), s), NOT_RIGHT)

    def test_no_line_at_all(self):
        self.assertEqual(home(7, [0, 0], []), NOT_RIGHT)
        self.assertEqual(home(7, [0, 0], [1]), NOT_RIGHT)

    def test_lines_without_a_gate(self):
        self.assertEqual(home(7, [3, 0], [0, 1, 1]), [3, 0, 1, 1])
        self.assertEqual(home(7, [3, 0], [1, 1, 0]), NOT_RIGHT)

    def test_a_gate_of_twice_the_same_line(self):
        for work in (2, 3):
            p = row_of(2, [[work, 1, 1]])
            self.assertEqual(home(7, p, [0, 1, 1]), [2, 0, 1])
            for s in ([0, 0, 1], [0, 1, 0], [0, 0, 0], [0, 1]):
                self.assertEqual(home(7, p, s), NOT_RIGHT)
        for s in lists_of(3):
            self.assertEqual(home(7, row_of(2, [[4, 1, 1]]), s), NOT_RIGHT)
        for s in lists_of(2):
            self.assertEqual(home(7, row_of(2, [[4, 1, 1], [1, 2, 0]]), s + [0, 1]), answer_of(s))

    def test_gates_that_nothing_looks_at(self):
        p = row_of(2, [[0, 0, 0], [1, 0, 0], [4, 0, 1], [1, 1, 0], [2, 0, 1]])
        told = [1, 1, 0, 0, 0, 0, 1]
        self.assertEqual(home(7, p, told), [2, 1, 1])
        # They are to be as their gates make them all the same.
        for wrong in one_flag_turned(told):
            self.assertEqual(home(7, p, wrong), NOT_RIGHT)


class NotRight(unittest.TestCase):

    def test_each_list_that_is_not_right(self):
        for t in TURNS:
            for n, rows in puzzles_for(t):
                p = row_of(n, rows)
                turned_n = turn(t, p)[1]
                solutions = turned_solutions(t, p)
                if turned_n <= 5:
                    wrong = [s for s in lists_of(turned_n) if s not in solutions]
                else:
                    wrong = [s for solution in solutions[:4] for s in one_flag_turned(solution) if s not in solutions]
                for s in wrong:
                    self.assertEqual(home(t, p, s), NOT_RIGHT, (t, p, s))

    def test_what_does_not_tell_of_each_flag(self):
        for t in TURNS:
            for n, rows in several_rows(t) + [(1, []), (3, [])]:
                p = row_of(n, rows)
                for s in turned_solutions(t, p)[:20]:
                    for wrong in not_told(s):
                        self.assertEqual(home(t, p, wrong), NOT_RIGHT, (t, p, wrong))

    def test_a_solution_of_p_that_is_none_of_the_turned_puzzle(self):
        for t in (0, 2, 4, 7):
            tried = 0
            for n, rows in puzzles_for(t):
                p = row_of(n, rows)
                if turn(t, p)[1] == n:
                    continue
                for s in right_solutions(FROM[t], n, rows):
                    self.assertEqual(home(t, p, s), NOT_RIGHT, (t, p, s))
                    tried += 1
            self.assertGreater(tried, 20)

    def test_no_flag_and_something_told(self):
        for t in TURNS:
            p = row_of(0, [[0, 0, 0], [1, 0, 0]] if FROM[t] == GATES else [])
            for s in turned_solutions(t, p):
                self.assertEqual(home(t, p, s), [0])
                for wrong in not_told(s):
                    self.assertEqual(home(t, p, wrong), NOT_RIGHT)


class AsOfThereAndHome(WithSolution, unittest.TestCase):

    call = staticmethod(home)

    def several_calls(self):
        calls = []
        for t in TURNS:
            for n, rows in several_rows(t):
                p = row_of(n, rows)
                calls += [(t, p, s) for s in turned_solutions(t, p)[:50] + [[0] * n, [2], []]]
        return calls


class LongestAndGreatest(unittest.TestCase):

    def test_long_puzzles_with_right_solutions(self):
        for t in TURNS:
            longest = 0
            for n, rows, s in long_puzzles(t):
                p = row_of(n, rows)
                told = there(t, p, s)[1:]
                if len(told) > 2000:
                    continue
                longest = max(longest, len(p))
                self.assertEqual(home(t, p, told), answer_of(s))
                self.assertEqual(home(t, p, told[:-1]), NOT_RIGHT)
                self.assertEqual(home(t, p, told[:-1] + [2]), NOT_RIGHT)
            self.assertGreater(longest, 397, t)

    def test_as_many_flags_as_may_be_told(self):
        s = [int(flag % 3 == 0) for flag in range(2000)]
        wishes = [[0, 2], [3, 3996], [3999]]
        several = {0: wishes, 1: wishes, 6: wishes}
        several.update({2: [[0], [3999]], 3: [[0, 2], [2, 3996], [3999]], 5: [[0, 2], [2, 3996]]})
        for t, rows in several.items():
            self.assertEqual(home(t, [2000, 0], s), answer_of(s))
            self.assertEqual(home(t, row_of(2000, rows), s), answer_of(s), t)
            self.assertEqual(home(t, row_of(2000, rows + [[3998]]), s), NOT_RIGHT, t)
        self.assertEqual(home(7, [2000, 0], s), NOT_RIGHT)
        self.assertEqual(home(7, [2000, 0], flipped(s)), answer_of(flipped(s)))
        # Of turn 4 the last number tells of the common flag.
        self.assertEqual(home(4, [1999, 0], s), answer_of(s[:-1]))
        self.assertEqual(home(4, [1999, 0], flipped(s)), answer_of(s[:-1]))
        self.assertEqual(home(4, [2000, 0], s), NOT_RIGHT)

    def check_turned_to_most(self, t, n, rows, s):
        """That p, as long as it may be, is turned into a puzzle of 2,000 flags, of which one comes home as s."""
        p = row_of(n, rows)
        self.assertIn(len(p), (398, 399, 400))
        told = there(t, p, s)[1:]
        self.assertEqual(len(told), 2000)
        self.assertEqual(home(t, p, told), answer_of(s))
        for place in (0, n - 1, n, 1999):
            changed = told[:place] + [1 - told[place]] + told[place + 1:]
            expected = judged_right(TO[t], *parts_of(turn(t, p)[1:]), changed)
            self.assertEqual(home(t, p, changed) != NOT_RIGHT, expected, (t, place))

    def test_turned_to_as_many_flags_as_may_be_told(self):
        wish = [2 * flag for flag in range(1606 - 397, 1606)]
        self.check_turned_to_most(0, 1606, [wish], [0] * 1605 + [1])
        self.check_turned_to_most(0, 1606, [wish], [1] * 1606)
        for t, n in ((2, 2000 - 8 * 99), (4, 2000 - 1 - 99)):
            threes = [[2 * flag, 2 * flag + 3, 2 * flag + 4] for flag in range(n - 101, n - 2)]
            self.check_turned_to_most(t, n, threes, [1] * n)
            self.check_turned_to_most(t, n, threes, [0] * n)
        self.check_turned_to_most(7, 1901, [[1, 1900 + number, 0] for number in range(99)], [1] * 1900 + [0])
        self.check_turned_to_most(7, 1901, [[3, number, 1900 + number] for number in range(99)], [1] + [0] * 1900)

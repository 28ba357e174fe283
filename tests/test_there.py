"""Tests of there: points 1, 2, 3 and 5 of the document, and what it says ahead of them."""

import unittest

from smallwishes.puzzles import right, there, turn
from tests.helper import (
    FROM, GATES, NOT_RIGHT, TO, TURNS, WithSolution,
    judged_right, lists_of, long_puzzles, not_told, parts_of, puzzles_for, right_solutions, row_of, several_rows,
    small_puzzles,
)

# For which sayings of a wish, told by their places in it, each new flag stands.
STANDS_FOR = {
    4: ("01",),
    5: ("01", "23"),
    6: ("01", "23", "45"),
    7: ("01", "23", "45", "601"),
    8: ("01", "23", "45", "67", "0123"),
    9: ("01", "23", "45", "67", "801", "2345"),
}

# What the new flags of just one tell, by which sayings of a row are met.
TOLD_OF_TWO = {(1, 1): "100", (1, 0): "010", (0, 1): "001"}
TOLD_OF_THREE = {
    (1, 1, 1): "10011100",
    (1, 1, 0): "10011001",
    (1, 0, 1): "01001100",
    (1, 0, 0): "01001001",
    (0, 1, 1): "00101100",
    (0, 1, 0): "00101001",
    (0, 0, 1): "00010010",
}


def answer_of(s):
    """What there answers if this is the solution that is gone to."""
    return [len(s)] + s


def digits(text):
    """The numbers that a text of digits tells."""
    return [int(digit) for digit in text]


def wish_of(signs):
    """A wish of the first flags, a saying that one is down where the sign is 1."""
    return [2 * flag + sign for flag, sign in enumerate(signs)]


def flags_for(met, signs):
    """The flags by which the sayings of such a wish are met or not, as met tells."""
    return [number ^ sign for number, sign in zip(met, signs)]


class Checked(unittest.TestCase):

    def check(self, t, n, rows, s, new):
        """That s goes to itself and behind it these numbers of new flags."""
        got = there(t, row_of(n, rows), s)
        self.assertEqual(got, answer_of(s + new), (t, n, rows, s))
        self.assertEqual(set(type(number) for number in got), {int})


class WhatHolds(Checked):

    def test_what_goes_there_is_right(self):
        for t in TURNS:
            solved = 0
            for n, rows in puzzles_for(t):
                p = row_of(n, rows)
                turned = turn(t, p)[1:]
                for s in right_solutions(FROM[t], n, rows):
                    got = there(t, p, s)
                    self.assertEqual(got[0], len(got) - 1, (t, p, s))
                    self.assertEqual(got[1:n + 1], s, (t, p, s))
                    self.assertEqual(right(TO[t], turned, got[1:]), [1], (t, p, s))
                    self.assertEqual(set(type(number) for number in got), {int})
                    solved += 1
            self.assertGreater(solved, 50)

    def test_new_flags_are_told_by_the_first_ones(self):
        # Of these turns there's just one right solution that begins as s does.
        for t in (0, 2, 7):
            for n, rows in puzzles_for(t):
                p = row_of(n, rows)
                gone_to = right_solutions(TO[t], *parts_of(turn(t, p)[1:]))
                before = right_solutions(FROM[t], n, rows)
                self.assertEqual([there(t, p, s) for s in before], [answer_of(s) for s in gone_to], (t, p))


class EachTurn(Checked):

    def test_the_answer_number_by_number(self):
        self.assertEqual(there(0, [4, 0, 4, 0, 2, 4, 6], [0, 1, 0, 0]), [5, 0, 1, 0, 0, 1])
        self.assertEqual(there(1, [2, 0, 2, 0, 3], [0, 0]), [2, 0, 0])
        self.assertEqual(there(2, [2, 0, 2, 0, 3], [0, 0]), [5, 0, 0, 0, 0, 1])
        self.assertEqual(there(3, [2, 0, 2, 0, 3], [0, 0]), [2, 0, 0])
        self.assertEqual(there(4, [3, 0, 3, 0, 2, 4], [0, 0, 1]), [5, 0, 0, 1, 0, 1])
        self.assertEqual(there(5, [2, 0, 2, 0, 3], [0, 0]), [2, 0, 0])
        self.assertEqual(there(6, [2, 0, 2, 0, 3], [0, 0]), [2, 0, 0])
        self.assertEqual(there(7, [1, 0, 3, 1, 0, 0], [0]), [2, 0, 1])

    def test_wishes_to_threes(self):
        for length, stands_for in STANDS_FOR.items():
            for signs in ([0] * length, [1] * length, [0, 1, 1] * 3, [1, 0, 0, 0, 1] * 2):
                signs = signs[:length]
                for met in lists_of(length)[1:]:
                    new = [max(met[int(place)] for place in places) for places in stands_for]
                    self.check(0, length, [wish_of(signs)], flags_for(met, signs), new)

    def test_new_flags_of_threes_come_wish_by_wish(self):
        rows = [[0, 2, 4, 6], [2, 7], [1, 3, 5, 7], [0, 3, 5, 7]]
        self.check(0, 4, rows, [0, 1, 0, 0], [1, 1, 0])
        self.check(0, 4, rows, [0, 0, 1, 0], [0, 1, 1])
        self.check(0, 4, rows, [1, 1, 1, 0], [1, 0, 1])
        rows = [[0, 2, 4, 6, 8], [1], [1, 3, 5, 7, 9]]
        self.check(0, 6, rows, [0, 1, 0, 0, 1, 1], [1, 0, 1, 1])
        self.check(0, 6, rows, [0, 1, 1, 1, 1, 0], [1, 1, 1, 0])

    def test_rows_of_two_to_just_one(self):
        for signs in lists_of(2):
            for met, told in TOLD_OF_TWO.items():
                self.check(2, 2, [wish_of(signs)], flags_for(met, signs), digits(told))

    def test_rows_of_three_to_just_one(self):
        for signs in lists_of(3):
            for met, told in TOLD_OF_THREE.items():
                self.check(2, 3, [wish_of(signs)], flags_for(met, signs), digits(told))

    def test_new_flags_of_just_one_come_row_by_row(self):
        self.check(2, 3, [[0, 2], [5], [1, 2, 5], [1, 3, 5]], [1, 1, 0], digits("100" "00101100" "00010010"))
        self.check(2, 3, [[0, 2], [5], [1, 2, 5], [3, 5], [0]], [1, 0, 0], digits("010" "00010010" "100"))
        self.check(2, 3, [[1, 3, 5], [1, 4]], [0, 0, 1], digits("10011001" "100"))

    def test_threes_to_not_all_alike(self):
        for n in range(4):
            for s in lists_of(n):
                self.check(4, n, [], s, [0])
        for signs in lists_of(3):
            for met in lists_of(3)[1:]:
                u = int(met[:2] == [0, 0])
                self.check(4, 3, [wish_of(signs)], flags_for(met, signs), [0, u])

    def test_new_flags_of_not_all_alike_come_row_by_row(self):
        rows = [[1, 3], [0, 2, 5], [1], [1, 3, 4], [0, 3, 4], [2, 5], [0, 4, 7]]
        self.check(4, 4, rows, [0, 0, 0, 0], [0, 1, 0, 0, 1])
        self.check(4, 4, rows, [0, 1, 1, 0], [0, 0, 0, 1, 0])
        self.check(4, 4, [[0, 2], [1]], [0, 1, 1, 0], [0])

    def test_gates_to_wishes(self):
        rows = [
            [1, 0, 0], [2, 0, 1], [3, 0, 1], [4, 0, 1], [2, 1, 1], [3, 1, 1], [4, 1, 1], [0, 0, 0],
            [1, 3, 0], [3, 2, 3], [4, 6, 9], [1, 8, 0],
        ]
        self.check(7, 2, rows, [0, 0], digits("1000" "0000" "1101"))
        self.check(7, 2, rows, [0, 1], digits("1011" "1100" "1111"))
        self.check(7, 2, rows, [1, 0], digits("0011" "0000" "1001"))
        self.check(7, 2, rows, [1, 1], digits("0110" "1100" "0111"))

    def test_turns_by_which_it_goes_as_it_is(self):
        for t in (1, 3, 5, 6):
            for n, rows in small_puzzles(FROM[t]):
                for s in right_solutions(FROM[t], n, rows):
                    self.check(t, n, rows, s, [])


class Corners(Checked):

    def test_an_empty_wish_has_no_right_solution(self):
        for t in TURNS[:7]:
            for n, rows in ((0, [[]]), (2, [[]]), (2, [[0, 2], []]), (2, [[], [1]])):
                for s in lists_of(n):
                    self.assertEqual(there(t, row_of(n, rows), s), NOT_RIGHT)

    def test_no_wish(self):
        for n in range(5):
            for s in lists_of(n):
                for t in (0, 1, 2, 3, 5, 6):
                    self.check(t, n, [], s, [])
                self.check(4, n, [], s, [0])

    def test_a_row_of_one(self):
        for t in (0, 1, 2, 3, 6):
            self.check(t, 2, [[3]], [1, 0], [])
            self.assertEqual(there(t, row_of(2, [[3]]), [1, 1]), NOT_RIGHT)
        self.check(4, 2, [[3]], [1, 0], [0])
        for s in lists_of(2):
            self.assertEqual(there(5, row_of(2, [[3]]), s), NOT_RIGHT)

    def test_no_flag(self):
        for t in (0, 1, 2, 3, 5, 6):
            self.assertEqual(there(t, [0, 0], []), [0])
        self.assertEqual(there(4, [0, 0], []), [1, 0])
        self.assertEqual(there(7, row_of(0, [[0, 0, 0], [1, 0, 0]]), []), [2, 0, 1])
        self.assertEqual(there(7, row_of(0, [[0, 0, 0]]), []), NOT_RIGHT)

    def test_no_line_at_all(self):
        self.assertEqual(there(7, [0, 0], []), NOT_RIGHT)

    def test_lines_without_a_gate(self):
        self.check(7, 3, [], [0, 1, 1], [])
        self.assertEqual(there(7, [3, 0], [1, 1, 0]), NOT_RIGHT)

    def test_a_gate_of_twice_the_same_line(self):
        for work in (2, 3):
            self.check(7, 2, [[work, 1, 1]], [0, 1], [1])
            self.assertEqual(there(7, row_of(2, [[work, 1, 1]]), [1, 0]), NOT_RIGHT)
        for s in lists_of(2):
            self.assertEqual(there(7, row_of(2, [[4, 1, 1]]), s), NOT_RIGHT)
            self.check(7, 2, [[4, 1, 1], [1, 2, 0]], s, [0, 1])

    def test_gates_that_nothing_looks_at(self):
        rows = [[0, 0, 0], [1, 0, 0], [4, 0, 1], [1, 1, 0], [2, 0, 1]]
        self.check(7, 2, rows, [1, 1], [0, 0, 0, 0, 1])
        self.assertEqual(there(7, row_of(2, rows), [1, 0]), NOT_RIGHT)


class NotRight(unittest.TestCase):

    def test_each_list_that_is_not_right(self):
        for t in TURNS:
            for n, rows in puzzles_for(t):
                p = row_of(n, rows)
                solutions = right_solutions(FROM[t], n, rows)
                for s in lists_of(n):
                    self.assertEqual(there(t, p, s) == NOT_RIGHT, s not in solutions, (t, p, s))

    def test_what_does_not_tell_of_each_flag(self):
        for t in TURNS:
            for n, rows in several_rows(t) + [(1, []), (3, [])]:
                for s in right_solutions(FROM[t], n, rows):
                    for wrong in not_told(s):
                        self.assertEqual(there(t, row_of(n, rows), wrong), NOT_RIGHT, (t, n, rows, wrong))

    def test_no_flag_and_something_told(self):
        for t in TURNS:
            rows = [[0, 0, 0], [1, 0, 0]] if FROM[t] == GATES else []
            self.assertNotEqual(there(t, row_of(0, rows), []), NOT_RIGHT)
            for wrong in not_told([]):
                self.assertEqual(there(t, row_of(0, rows), wrong), NOT_RIGHT)

    def test_a_solution_of_the_turned_puzzle_with_its_new_flags(self):
        self.assertEqual(there(4, [2, 0, 2, 0, 3], [0, 0, 0]), NOT_RIGHT)
        self.assertEqual(there(7, [1, 0, 3, 1, 0, 0], [0, 1]), NOT_RIGHT)


class AsOfThereAndHome(WithSolution, unittest.TestCase):

    call = staticmethod(there)

    def several_calls(self):
        return [(t, row_of(n, rows), s) for t in TURNS for n, rows in several_rows(t) for s in lists_of(n)]


class LongestAndGreatest(unittest.TestCase):

    def test_long_puzzles_with_right_solutions(self):
        for t in TURNS:
            longest = 0
            for n, rows, s in long_puzzles(t):
                p = row_of(n, rows)
                self.assertLessEqual(len(p), 400)
                longest = max(longest, len(p))
                got = there(t, p, s)
                self.assertEqual(got[0], len(got) - 1)
                self.assertEqual(got[1:n + 1], s)
                turned_n, turned_rows = parts_of(turn(t, p)[1:])
                self.assertEqual(got[0], turned_n)
                self.assertTrue(judged_right(TO[t], turned_n, turned_rows, got[1:]))
                self.assertEqual(there(t, p, s[:-1]), NOT_RIGHT)
                self.assertEqual(there(t, p, s[:-1] + [2]), NOT_RIGHT)
            self.assertGreater(longest, 397, t)

    def test_answers_longer_than_what_is_handed_in(self):
        wish = [2 * flag for flag in range(1603, 2000)]
        got = there(0, row_of(2000, [wish]), [0] * 1999 + [1])
        self.assertEqual(got[:2000], [2394] + [0] * 1999)
        self.assertEqual(len(got), 2395)
        got = there(4, row_of(2000), [1] * 2000)
        self.assertEqual(got, [2001] + [1] * 2000 + [0])
        got = there(7, row_of(2000, [[1, 0, 0]] * 99), [0] * 2000)
        self.assertEqual(got, [2099] + [0] * 2000 + [1] * 99)

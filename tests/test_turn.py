"""Tests of turn: points 1, 2 and 5 of the document, and what it says ahead of them."""

import unittest

from smallwishes.puzzles import many, right, turn
from tests.helper import (
    FROM, GATES, GREATEST_KIND, GREATEST_NUMBER, TO, TOO_LARGE, TURNS, WRONG,
    gates_for, lists_of, parts_of, puzzles_for, right_solutions, row_of, several_rows, small_puzzles,
    turns_too_large, wishes_over, wrong_and_large_turns, wrong_turns,
)

# Rows as the document tells them, a letter for a saying, a great one for its opposite;
# xyz are what the row says, the other letters new flags, "-" is a row of no saying.
PATTERNS = {
    2: {0: "-", 1: "x", 2: "Xab Yac abc", 3: "Xab Yac bcd aDE Zfg Efh fgh"},
    3: {0: "-", 1: "x", 2: "xy XY", 3: "xyz XY XZ YZ"},
    4: {0: "-", 1: "xc", 2: "xyc", 3: "xyu zcU"},
    5: {0: "- -", 1: "x X", 2: "xy XY", 3: "xyz XYZ"},
}
NEW_FLAGS = {2: {2: "abc", 3: "abcdefgh"}, 3: {}, 4: {3: "u"}, 5: {}}
GATE_PATTERNS = {0: "G", 1: "ag AG", 2: "aG bG ABg", 3: "Ag Bg abG", 4: "abG ABG Abg aBg"}
SAME_LINE_PATTERNS = {2: "aG Ag", 3: "aG Ag", 4: "G"}


def rows_told(pattern, sayings):
    """The rows of a pattern, whose letters stand for these sayings."""
    rows = []
    for word in pattern.split():
        letters = word.replace("-", "")
        rows.append([sayings[letter.lower()] ^ letter.isupper() for letter in letters])
    return rows


def turned_by_patterns(t, n, rows):
    """Turns 2 to 5, row by row."""
    sayings = {}
    flags = n
    if t == 4:
        sayings["c"] = 2 * n
        flags += 1
    turned = []
    for row in rows:
        sayings.update(zip("xyz", row))
        for letter in NEW_FLAGS[t].get(len(row), ""):
            sayings[letter] = 2 * flags
            flags += 1
        turned += rows_told(PATTERNS[t][len(row)], sayings)
    return flags, turned


def threes_told(n, rows):
    """Turn 0, each wish as a line of sayings of which two at a time are taken."""
    threes = []
    for row in rows:
        line = list(row)
        taken = 0
        while len(line) - taken > 3:
            sayings = {"a": line[taken], "b": line[taken + 1], "y": 2 * n}
            threes += rows_told("Ay By abY", sayings)
            line.append(2 * n)
            taken += 2
            n += 1
        threes.append(line[taken:])
    return n, threes


def gates_told(n, rows):
    """Turn 6, with a list of all lines at hand: each is a gate, or None if it's given."""
    lines = [None] * n

    def make(work, a, b):
        lines.append([work] + sorted((a, b)) if work > 1 else [work, a, b])
        return len(lines) - 1

    down = [make(1, flag, 0) for flag in range(n)]
    never = make(0, 0, 0)
    holds = make(1, never, 0)
    for row in rows:
        so_far = never
        for saying in row:
            so_far = make(3, so_far, down[saying >> 1] if saying & 1 else saying >> 1)
        holds = make(2, holds, so_far)
    return n, lines[n:]


def wishes_told(n, rows):
    """Turn 7, gate by gate."""
    wishes = []
    for number, (work, a, b) in enumerate(rows):
        sayings = {"a": 2 * a, "b": 2 * b, "g": 2 * (n + number)}
        patterns = SAME_LINE_PATTERNS if work > 1 and a == b else GATE_PATTERNS
        wishes += rows_told(patterns[work], sayings)
    lines = n + len(rows)
    return lines, wishes + [[2 * (lines - 1)] if lines else []]


def turned_again(t, n, rows):
    """The document's words on the turns, written a second time and otherwise."""
    if t == 0:
        return threes_told(n, rows)
    if t == 1:
        return n, rows
    if t == 6:
        return gates_told(n, rows)
    if t == 7:
        return wishes_told(n, rows)
    return turned_by_patterns(t, n, rows)


def answer_of(n, rows):
    """What turn answers if the turned puzzle is this."""
    p = row_of(n, rows)
    return [len(p)] + p


class TurnedRows(unittest.TestCase):

    def check(self, t, n, rows, turned_n, turned_rows):
        got = turn(t, row_of(n, rows))
        self.assertEqual(got, answer_of(turned_n, turned_rows), (t, n, rows))
        self.assertEqual(set(type(number) for number in got), {int})

    def test_the_answer_number_by_number(self):
        self.assertEqual(turn(0, [2, 0, 2, 0, 3]), [5, 2, 0, 2, 0, 3])
        self.assertEqual(turn(1, [2, 0, 2, 0, 3]), [5, 2, 0, 2, 0, 3])
        self.assertEqual(turn(2, [1, 0, 1, 1]), [4, 1, 0, 1, 1])
        self.assertEqual(turn(3, [2, 0, 2, 0, 3]), [8, 2, 0, 2, 0, 3, 2, 1, 2])
        self.assertEqual(turn(4, [2, 0, 2, 0, 3]), [6, 3, 0, 3, 0, 3, 4])
        self.assertEqual(turn(5, [2, 0, 2, 0, 3]), [8, 2, 0, 2, 0, 3, 2, 1, 2])
        self.assertEqual(turn(6, [0, 0]), [10, 0, 0, 3, 0, 0, 0, 3, 1, 0, 0])
        self.assertEqual(turn(7, [1, 0, 3, 1, 0, 0]), [10, 2, 0, 2, 0, 2, 2, 1, 3, 1, 2])

    def test_no_row(self):
        for n in (0, 1, 2, 5):
            for t in (0, 1, 2, 3, 5):
                self.check(t, n, [], n, [])
            self.check(4, n, [], n + 1, [])
            gates = [[1, flag, 0] for flag in range(n)] + [[0, 0, 0], [1, 2 * n, 0]]
            self.check(6, n, [], n, gates)
        self.check(7, 0, [], 0, [[]])
        self.check(7, 1, [], 1, [[0]])
        self.check(7, 5, [], 5, [[8]])

    def test_wishes_that_stay(self):
        for rows in ([[]], [[3]], [[0, 3]], [[1, 2, 7]], [[], [], [0, 2, 4], [1]]):
            self.check(0, 4, rows, 4, rows)

    def test_wishes_to_threes(self):
        self.check(0, 4, [[0, 3, 4, 7]], 5, [[1, 8], [2, 8], [0, 3, 9], [4, 7, 8]])
        self.check(0, 6, [[1, 3, 7, 11]], 7, [[0, 12], [2, 12], [1, 3, 13], [7, 11, 12]])
        of_five = [[1, 10], [3, 10], [0, 2, 11], [5, 12], [7, 12], [4, 6, 13], [8, 10, 12]]
        self.check(0, 5, [[0, 2, 4, 6, 8]], 7, of_five)
        of_seven = [
            [1, 14], [2, 14], [0, 3, 15],
            [5, 16], [6, 16], [4, 7, 17],
            [9, 18], [10, 18], [8, 11, 19],
            # Of what's left here the first is the wish's own, the second a new flag.
            [13, 20], [15, 20], [12, 14, 21],
            [16, 18, 20],
        ]
        self.check(0, 7, [[0, 3, 4, 7, 8, 11, 12]], 11, of_seven)

    def test_new_flags_of_threes_go_on(self):
        turned = [
            [1, 8], [3, 8], [0, 2, 9], [4, 6, 8],
            [2, 7],
            [0, 10], [2, 10], [1, 3, 11], [5, 7, 10],
        ]
        self.check(0, 4, [[0, 2, 4, 6], [2, 7], [1, 3, 5, 7]], 6, turned)

    def test_threes_to_wishes(self):
        for n, rows in list(small_puzzles(1)) + several_rows(1):
            self.check(1, n, rows, n, rows)

    def test_threes_to_just_one(self):
        self.check(2, 2, [[]], 2, [[]])
        self.check(2, 2, [[3]], 2, [[3]])
        self.check(2, 2, [[0, 3]], 5, [[1, 4, 6], [2, 4, 8], [4, 6, 8]])
        of_three = [
            [1, 6, 8], [2, 6, 10], [8, 10, 12], [6, 13, 15],
            [5, 16, 18], [15, 16, 20], [16, 18, 20],
        ]
        self.check(2, 3, [[0, 3, 4]], 11, of_three)

    def test_new_flags_of_just_one_go_on(self):
        turned = [
            [1, 6, 8], [3, 6, 10], [6, 8, 10],
            [1],
            [0, 12, 14], [3, 12, 16], [14, 16, 18], [12, 19, 21],
            [4, 22, 24], [21, 22, 26], [22, 24, 26],
            [],
            [2, 28, 30], [5, 28, 32], [28, 30, 32],
        ]
        self.check(2, 3, [[0, 2], [1], [1, 2, 5], [], [3, 4]], 17, turned)

    def test_just_one_to_wishes(self):
        self.check(3, 3, [[]], 3, [[]])
        self.check(3, 3, [[5]], 3, [[5]])
        self.check(3, 3, [[0, 5]], 3, [[0, 5], [1, 4]])
        self.check(3, 3, [[0, 3, 4]], 3, [[0, 3, 4], [1, 2], [1, 5], [2, 5]])
        self.check(3, 3, [[1, 2], [], [4]], 3, [[1, 2], [0, 3], [], [4]])

    def test_threes_to_not_all_alike(self):
        self.check(4, 2, [[]], 3, [[]])
        self.check(4, 2, [[3]], 3, [[3, 4]])
        self.check(4, 2, [[0, 3]], 3, [[0, 3, 4]])
        self.check(4, 3, [[0, 3, 5]], 5, [[0, 3, 8], [5, 6, 9]])
        turned = [[0, 2, 8], [4, 6, 9], [1, 6], [0, 3, 6], [], [1, 3, 10], [5, 6, 11]]
        self.check(4, 3, [[0, 2, 4], [1], [0, 3], [], [1, 3, 5]], 6, turned)

    def test_not_all_alike_to_wishes(self):
        self.check(5, 3, [[]], 3, [[], []])
        self.check(5, 3, [[5]], 3, [[5], [4]])
        self.check(5, 3, [[0, 5]], 3, [[0, 5], [1, 4]])
        self.check(5, 3, [[0, 3, 4], [2]], 3, [[0, 3, 4], [1, 2, 5], [2], [3]])

    def test_wishes_to_gates(self):
        first = [[1, 0, 0], [1, 1, 0], [0, 0, 0], [1, 4, 0]]
        self.check(6, 2, [[]], 2, first + [[2, 4, 5]])
        self.check(6, 2, [[0]], 2, first + [[3, 0, 4], [2, 5, 6]])
        self.check(6, 2, [[3]], 2, first + [[3, 3, 4], [2, 5, 6]])
        self.check(6, 2, [[1, 2]], 2, first + [[3, 2, 4], [3, 1, 6], [2, 5, 7]])
        several = [[3, 0, 4], [3, 3, 6], [2, 5, 7], [2, 4, 8], [3, 2, 4], [2, 9, 10]]
        self.check(6, 2, [[0, 3], [], [1]], 2, first + several)

    def test_gates_to_wishes(self):
        # Of the lines 0 and 1 line 2, which is the last.
        self.check(7, 2, [[0, 0, 0]], 3, [[5], [4]])
        self.check(7, 2, [[1, 1, 0]], 3, [[2, 4], [3, 5], [4]])
        self.check(7, 2, [[2, 0, 1]], 3, [[0, 5], [2, 5], [1, 3, 4], [4]])
        self.check(7, 2, [[3, 0, 1]], 3, [[1, 4], [3, 4], [0, 2, 5], [4]])
        self.check(7, 2, [[4, 0, 1]], 3, [[0, 2, 5], [1, 3, 5], [1, 2, 4], [0, 3, 4], [4]])
        self.check(7, 2, [[2, 1, 1]], 3, [[2, 5], [3, 4], [4]])
        self.check(7, 2, [[3, 1, 1]], 3, [[2, 5], [3, 4], [4]])
        self.check(7, 2, [[4, 1, 1]], 3, [[5], [4]])
        # Gate 1 tells 0 as b where line 0 may be its a: that's not twice the same line.
        self.check(7, 2, [[1, 0, 0]], 3, [[0, 4], [1, 5], [4]])
        several = [[0, 4], [1, 5], [2, 7], [4, 7], [3, 5, 6], [9], [8]]
        self.check(7, 2, [[1, 0, 0], [2, 1, 2], [0, 0, 0]], 5, several)

    def test_as_told_a_second_time(self):
        for t in TURNS:
            for n, rows in puzzles_for(t):
                self.check(t, n, rows, *turned_again(t, n, rows))

    def test_each_wish_and_each_gate_behind_another(self):
        for t in (2, 3, 4, 5):
            for wish in wishes_over(4, 3):
                rows = [[0, 3, 6], wish, [1, 4]]
                self.check(t, 4, rows, *turned_again(t, 4, rows))
        for gate in gates_for(5):
            rows = [[2, 0, 1], [4, 1, 3], gate, [1, 5, 0]]
            self.check(7, 3, rows, *turned_again(7, 3, rows))


class WhatHolds(unittest.TestCase):

    def test_the_turned_puzzle_is_of_the_kind_that_the_turn_goes_to(self):
        for t in TURNS:
            for n, rows in puzzles_for(t):
                got = turn(t, row_of(n, rows))
                self.assertEqual(got[0], len(got) - 1)
                self.assertIn(right(TO[t], got[1:], []), ([0], [1]), (t, n, rows))
                self.assertNotEqual(many(TO[t], got[1:]), WRONG, (t, n, rows))

    def test_just_as_many_right_solutions(self):
        for t in (0, 1, 2, 3, 5, 6, 7):
            for n, rows in puzzles_for(t):
                turned_n, turned_rows = parts_of(turn(t, row_of(n, rows))[1:])
                solutions = right_solutions(TO[t], turned_n, turned_rows)
                # New flags are told by the first ones: each solution is had once by its first n numbers.
                self.assertEqual([s[:n] for s in solutions], right_solutions(FROM[t], n, rows), (t, n, rows))

    def test_not_all_alike_has_one_just_if_threes_have(self):
        for n, rows in puzzles_for(4):
            turned_n, turned_rows = parts_of(turn(4, row_of(n, rows))[1:])
            solutions = right_solutions(3, turned_n, turned_rows)
            home = [[number ^ s[n] for number in s[:n]] for s in solutions]
            expected = right_solutions(1, n, rows)
            self.assertEqual(sorted(set(map(tuple, home))), [tuple(s) for s in expected], (n, rows))
            flipped = [[1 - number for number in s] for s in solutions]
            self.assertEqual(sorted(flipped), solutions)

    def test_counts_by_many(self):
        for t in TURNS:
            for n, rows in puzzles_for(t):
                p = row_of(n, rows)
                turned = turn(t, p)[1:]
                if turned[0] > 12:
                    continue
                before = many(FROM[t], p)[0]
                after = many(TO[t], turned)[0]
                self.assertEqual(before > 0, after > 0, (t, p))
                if t != 4:
                    self.assertEqual(before, after, (t, p))

    def test_there_and_back_between_kinds(self):
        # Turn behind turn, as long as all lists can be tried.
        p = row_of(4, [[0, 3, 4, 7], [1, 2]])
        threes = turn(0, p)[1:]
        self.assertEqual(many(1, threes), many(0, p))
        gates = turn(6, turn(1, threes)[1:])[1:]
        self.assertEqual(many(GATES, gates), many(0, p))
        wishes = turn(7, gates)[1:]
        solutions = right_solutions(0, *parts_of(wishes))
        self.assertEqual([len(solutions)], many(0, p))


class Corners(unittest.TestCase):

    def test_an_empty_wish_has_no_right_solution_turned(self):
        for t in (0, 1, 2, 3, 4, 5, 6):
            for n, rows in ((0, [[]]), (2, [[]]), (2, [[0, 2], []]), (2, [[], [1]])):
                turned_n, turned_rows = parts_of(turn(t, row_of(n, rows))[1:])
                self.assertEqual(right_solutions(TO[t], turned_n, turned_rows), [])

    def test_no_wish_has_all_lists_turned(self):
        for t in (0, 1, 2, 3, 5, 6):
            for n in range(5):
                turned_n, turned_rows = parts_of(turn(t, row_of(n))[1:])
                self.assertEqual(right_solutions(TO[t], turned_n, turned_rows), lists_of(n))

    def test_no_flag(self):
        for t in (0, 1, 2, 3, 5):
            self.assertEqual(turn(t, [0, 0]), [2, 0, 0])
        self.assertEqual(turn(4, [0, 0]), [2, 1, 0])
        self.assertEqual(turn(5, [0, 0, 0]), [4, 0, 0, 0, 0])
        self.assertEqual(turn(6, [0, 0, 0]), answer_of(0, [[0, 0, 0], [1, 0, 0], [2, 0, 1]]))
        self.assertEqual(turn(7, [0, 0, 3, 0, 0, 0]), answer_of(1, [[1], [0]]))

    def test_no_line_at_all(self):
        self.assertEqual(turn(7, [0, 0]), [3, 0, 0, 0])

    def test_gates_that_nothing_looks_at(self):
        rows = [[0, 0, 0], [1, 0, 0], [4, 0, 1], [2, 0, 1]]
        turned_n, turned_rows = parts_of(turn(7, row_of(2, rows))[1:])
        self.assertEqual(turned_n, 6)
        self.assertEqual(right_solutions(0, turned_n, turned_rows), [[1, 1, 0, 0, 0, 1]])


class Refusals(unittest.TestCase):

    def test_wrong_puzzles_and_turns(self):
        for t, p in wrong_turns():
            self.assertEqual(turn(t, p), WRONG, (t, p))

    def test_a_kind_that_the_turn_does_not_go_from(self):
        four = row_of(4, [[0, 3, 4, 7]])
        for t in TURNS:
            self.assertEqual(turn(t, four) == WRONG, t not in (0, 6), t)
        wishes = row_of(2, [[0, 3]])
        gates = row_of(2, [[2, 1, 1]])
        for t in TURNS:
            self.assertEqual(turn(t, wishes) == WRONG, t == 7, t)
            self.assertEqual(turn(t, gates) == WRONG, t != 7, t)

    def test_too_much_work(self):
        for t, p in turns_too_large():
            self.assertEqual(turn(t, p), TOO_LARGE, (t, p))

    def test_point_1_comes_ahead_of_point_2(self):
        for t, p in wrong_and_large_turns():
            self.assertEqual(turn(t, p), WRONG, (t, p))

    def test_work(self):
        for t in TURNS:
            for n in (1001, 39999, 40000):
                self.assertEqual(turn(t, row_of(n)), answer_of(*turned_again(t, n, [])))

    def test_work_of_rows(self):
        # Rows and the numbers in them count: 39995 + 2 + 3, and 39992 + 2 + 6.
        for t in TURNS[:7]:
            rows = [[0, 3], [5]]
            self.assertEqual(turn(t, row_of(39995, rows)), answer_of(*turned_again(t, 39995, rows)))
            self.assertEqual(turn(t, row_of(39996, rows)), TOO_LARGE)
            self.assertEqual(turn(t, row_of(39999, [[]])), answer_of(*turned_again(t, 39999, [[]])))
            self.assertEqual(turn(t, row_of(40000, [[]])), TOO_LARGE)
        rows = [[1, 0, 0], [3, 7, 39992]]
        self.assertEqual(turn(7, row_of(39992, rows)), answer_of(*turned_again(7, 39992, rows)))
        self.assertEqual(turn(7, row_of(39993, rows)), TOO_LARGE)


class LongestAndGreatest(unittest.TestCase):

    def check_longest(self, t, n, rows):
        self.assertLessEqual(len(row_of(n, rows)), 400)
        self.assertGreater(len(row_of(n, rows)), 396)
        got = turn(t, row_of(n, rows))
        self.assertEqual(got, answer_of(*turned_again(t, n, rows)))
        return parts_of(got[1:])

    def test_one_wish_of_many_sayings(self):
        wish = [2 * flag + flag % 3 % 2 for flag in range(397)]
        for n in (397, 39602):
            turned_n, threes = self.check_longest(0, n, [wish])
            self.assertEqual((turned_n, len(threes)), (n + 394, 3 * 394 + 1))
            turned_n, gates = self.check_longest(6, n, [wish])
            self.assertEqual((turned_n, len(gates)), (n, n + 2 + 397 + 1))
        for t in (0, 6):
            self.assertEqual(turn(t, row_of(39603, [wish])), TOO_LARGE)

    def test_most_rows(self):
        threes = [[2 * flag, 2 * flag + 3, 2 * flag + 4] for flag in range(99)]
        for t in TURNS[:7]:
            self.check_longest(t, 101, threes)
            self.check_longest(t, 200, [[0, 3]] * 132 + [[1]])
            self.check_longest(t, 200, [[2 * flag + 1] for flag in range(199)])
            self.check_longest(t, 39602, [[]] * 398)
            self.assertEqual(turn(t, row_of(39603, [[]] * 398)), TOO_LARGE)
        self.assertEqual(turn(7, row_of(3, [[]] * 398)), WRONG)

    def test_most_gates(self):
        for work in (2, 3, 4):
            self.check_longest(7, 1, [[work, number // 2, number] for number in range(99)])
            self.check_longest(7, 1, [[work, number, number] for number in range(99)])
        self.check_longest(7, 1, [[1, number, 0] for number in range(99)])
        self.check_longest(7, 0, [[0, 0, 0]] * 99)
        self.check_longest(7, 39604, [[4, 39603, 39603 + number] for number in range(99)])
        self.assertEqual(turn(7, row_of(39605, [[0, 0, 0]] * 99)), TOO_LARGE)

    def test_greatest_numbers(self):
        for t in TURNS + (8, GREATEST_KIND):
            self.assertEqual(turn(t, [GREATEST_NUMBER] * 400), WRONG)
        flags = GREATEST_NUMBER // 2
        for t in TURNS[:7]:
            self.assertEqual(turn(t, row_of(flags + 1, [[GREATEST_NUMBER]])), TOO_LARGE)
            self.assertEqual(turn(t, row_of(flags, [[GREATEST_NUMBER]])), WRONG)
        gate = [4, GREATEST_NUMBER, GREATEST_NUMBER]
        self.assertEqual(turn(7, row_of(GREATEST_NUMBER, [gate])), WRONG)
        self.assertEqual(turn(7, row_of(GREATEST_NUMBER, [[0, 0, 0], gate])), TOO_LARGE)

    def test_empty(self):
        for t in TURNS + (8, GREATEST_KIND):
            self.assertEqual(turn(t, []), WRONG)


class NothingKept(unittest.TestCase):

    def test_what_is_handed_in_stays_and_the_answer_too(self):
        calls = [(t, row_of(n, rows)) for t in TURNS for n, rows in several_rows(t)]
        calls += [(0, row_of(40001)), (3, row_of(4, [[0, 2, 4, 6]])), (8, [0, 0]), (7, [])]
        answers = [turn(t, list(p)) for t, p in calls]
        for (t, p), answer in zip(calls, answers):
            before = list(p)
            got = turn(t, p)
            self.assertEqual((p, got), (before, answer))
            for place in range(len(got)):
                got[place] = 9
            got.append(9)
            self.assertEqual((p, turn(t, p)), (before, answer))

"""What the tests of several calls share: rows of puzzles, wrong puzzles, a second judge, tests of there and home."""

from itertools import combinations, product

KINDS = (0, 1, 2, 3, 4)
WISH_KINDS = (0, 1, 2, 3)
THREE_KINDS = (1, 2, 3)
GATES = 4

TURNS = (0, 1, 2, 3, 4, 5, 6, 7)
FROM = (0, 1, 1, 2, 1, 3, 0, 4)
TO = (1, 0, 2, 0, 3, 0, 4, 0)

GREATEST_NUMBER = 18446744073709551615
GREATEST_KIND = 4294967295
GREATEST_TOLD = 4294967295

WRONG = [-22]
TOO_LARGE = [-28]
NOT_RIGHT = [-71]


def row_of(n, rows=(), k=0):
    """The row of a puzzle."""
    p = [n, k]
    for row in rows:
        p.append(len(row))
        p.extend(row)
    return p


def parts_of(p):
    """The n and the rows of a puzzle, of its row, whose k is 0."""
    assert p[1] == 0
    rows = []
    start = 2
    while start < len(p):
        end = start + 1 + p[start]
        assert end <= len(p)
        rows.append(p[start + 1:end])
        start = end
    return p[0], rows


def lists_of(n):
    """All lists of n numbers 0 or 1, in order."""
    return [list(told) for told in product((0, 1), repeat=n)]


def judged_right(c, n, rows, s):
    """The document's words on a right solution, written a second time and otherwise."""
    if c != GATES:
        counts = [(sum(1 for x in row if s[x >> 1] ^ (x & 1)), len(row)) for row in rows]
        if c == 2:
            return all(met == 1 for met, whole in counts)
        if c == 3:
            return all(met >= 1 and whole - met >= 1 for met, whole in counts)
        return all(met >= 1 for met, whole in counts)
    lines = [number == 1 for number in s]
    table = {
        0: lambda a, b: False,
        1: lambda a, b: not lines[a],
        2: lambda a, b: lines[a] and lines[b],
        3: lambda a, b: lines[a] or lines[b],
        4: lambda a, b: lines[a] != lines[b],
    }
    for work, a, b in rows:
        lines.append(table[work](a, b))
    return lines[-1:] == [True]


def right_solutions(c, n, rows):
    """All right solutions of a puzzle, in order, as the second judge has them.

    Of wishes and their like flag by flag, so that what can't become right is left early:
    turned puzzles have too many flags to try all lists.
    """
    if c == GATES:
        return [s for s in lists_of(n) if judged_right(c, n, rows, s)]
    if [] in rows:
        return []
    found = [[]]
    for flag in range(n):
        ending = [row for row in rows if row[-1] >> 1 == flag]
        longer = [s + [number] for s in found for number in (0, 1)]
        found = [s for s in longer if judged_right(c, n, ending, s)]
    return found


def wishes_over(n, longest):
    """All wishes over n flags with at most so many sayings."""
    found = []
    for length in range(min(n, longest) + 1):
        for flags in combinations(range(n), length):
            for signs in lists_of(length):
                found.append([2 * flag + sign for flag, sign in zip(flags, signs)])
    return found


def gates_for(line):
    """All gates that may make the line of this number."""
    found = [[0, 0, 0]]
    found += [[1, a, 0] for a in range(line)]
    found += [[work, a, b] for work in (2, 3, 4) for b in range(line) for a in range(b + 1)]
    return found


def small_puzzles(c):
    """All puzzles of kind c with few flags and at most two rows, as pairs of n and rows."""
    for n in range(4 if c != GATES else 3):
        yield n, []
        if c != GATES:
            wishes = wishes_over(n, 3)
            for one in wishes:
                yield n, [one]
                if n < 3:
                    for other in wishes:
                        yield n, [one, other]
        else:
            for one in gates_for(n):
                yield n, [one]
                for other in gates_for(n + 1):
                    yield n, [one, other]


def several_rows(t):
    """Puzzles, of the kind that the turn goes from, of several rows, as pairs of n and rows."""
    if t in (0, 6):
        return [
            (4, [[0, 2, 4, 6], [1, 3, 5, 7]]),
            (5, [[0, 3, 4, 7, 8], [], [2], [1, 2, 5, 6], [3, 9], [0, 2, 8]]),
            (6, [[0, 3, 4, 7, 8, 11], [1], [0, 2, 5, 7, 9, 10], [4, 6, 8]]),
            (7, [[1, 3, 5, 7, 9, 11, 13], [0, 2, 4, 6], [12]]),
        ]
    if t == 7:
        return [
            (2, [[1, 0, 0], [2, 0, 1], [3, 1, 3], [4, 2, 4], [0, 0, 0], [3, 5, 6]]),
            (3, [[4, 0, 1], [4, 2, 3], [2, 4, 4], [1, 5, 0], [1, 6, 0]]),
            (0, [[0, 0, 0], [1, 0, 0], [4, 0, 1], [3, 2, 2], [4, 3, 3], [1, 4, 0]]),
        ]
    return [
        (3, [[0, 2, 4], [1, 3, 5]]),
        (4, [[0, 3, 5], [2, 6], [1], [3, 4, 7]]),
        (4, [[2, 7], [0, 4], [1, 2, 5], [1, 3]]),
        (3, [[0, 2], [], [1, 5]]),
        (3, [[0], [0, 2, 5], [3], [1, 2, 4], [2, 4]]),
    ]


def long_wishes():
    """Puzzles of one wish of four to eight sayings, with an idle flag or none."""
    for length in range(4, 9):
        # Of the longest, whose right solutions are many, not each way to sign them.
        for signs in lists_of(length)[::1 if length < 7 else 17]:
            wish = [2 * flag + sign for flag, sign in enumerate(signs)]
            yield length, [wish]
    yield 9, [[2, 5, 8, 11]]
    yield 9, [[2, 5, 8, 11, 12, 15]]


def puzzles_for(t):
    """Small puzzles and greater ones of the kind that the turn goes from."""
    yield from small_puzzles(FROM[t])
    yield from several_rows(t)
    if FROM[t] == 0:
        yield from long_wishes()


def long_puzzles(t):
    """Puzzles of the kind that the turn goes from, with many numbers or flags, as n, rows and a right solution."""
    found = []
    for n in (400, 1000, 2000):
        third = [int(flag % 3 == 0) for flag in range(n)]
        told = ([0] * n, [1] * n, [0] * (n - 1) + [1], third, [1 - number for number in third])
        for rows in long_rows(t, n):
            found += [(n, rows, s) for s in told if judged_right(FROM[t], n, rows, s)]
    return found


def long_rows(t, n):
    """Rows that, beside none at all, make p as long as it may be; they speak of the last of n flags."""
    if t == 7:
        several = [[[work, n - 99 + number, n - 1 + number] for number in range(99)] for work in (2, 3, 4)]
        return several + [[], [[1, n - 1 + number, 0] for number in range(99)], [[0, 0, 0]] * 98 + [[1, n, 0]]]
    threes = [[2 * flag + 1, 2 * flag + 2, 2 * flag + 4] for flag in range(n - 101, n - 2)]
    several = [[], [[saying ^ 1 for saying in row] for row in threes], threes]
    several += [[[2 * flag, 2 * flag + 2, 2 * flag + 4] for flag in range(n - 101, n - 2)]]
    several += [[[2 * flag] for flag in range(n - 199, n)], [[2 * n - 8, 2 * n - 1]] * 132 + [[2 * n - 1]]]
    if FROM[t] == 0:
        several += [[[2 * flag + sign for flag in range(n - 397, n)]] for sign in (0, 1)]
        several += [[[2 * flag + flag % 3 % 2 for flag in range(n - 397, n)]]]
    return several


def not_told(s):
    """Lists that don't tell of each flag whether it's up, made of s, which does."""
    found = [s + [0], s + [1], s + s + [1], [0] * 2000, [1] * 2000, [GREATEST_TOLD] * 2000]
    if s:
        found += [[], s[:-1], s[1:]]
    for place in range(len(s)):
        for number in (2, 3, 4, GREATEST_TOLD - 1, GREATEST_TOLD):
            found.append(s[:place] + [number] + s[place + 1:])
    return [wrong for wrong in found if len(wrong) != len(s) or set(wrong) - {0, 1}]


def some_told(p):
    """Lists to hand in as s beside p, such as tell of each of its flags among them if they can be."""
    told = [[], [0], [1], [1, 0], [0, 0, 1], [2], [GREATEST_TOLD] * 2000]
    if p and p[0] <= 2000:
        told += [[0] * p[0], [1] * p[0]]
    return told


def wrong_calls():
    """Pairs of a kind and a row of which each is refused by point 1."""
    calls = []
    for c in (5, 6, 1000, GREATEST_KIND):
        calls += [(c, p) for p in (row_of(0), row_of(1), row_of(2, [[0, 2]]), row_of(2, [[2, 0, 1]]), [])]
    for c in KINDS:
        calls += [(c, p) for p in not_rows() + with_k()]
    for c in WISH_KINDS:
        calls += [(c, row_of(n, rows)) for n, rows in wrong_wishes()]
    for c in THREE_KINDS:
        calls += [(c, row_of(4, [[0, 2, 4, 6]])), (c, row_of(9, [[0, 3], [1, 2, 5, 7, 16], [4]]))]
    calls += [(GATES, row_of(n, rows)) for n, rows in wrong_gates()]
    return calls


def wrong_and_large_calls():
    """Pairs of a kind and a row that are refused by point 1 ahead of point 2."""
    calls = []
    for n in (13, 1001):
        for c in KINDS:
            calls += [(c, row_of(n, (), 1)), (c, row_of(n) + [1]), (c, row_of(n, [[2, 2]]))]
        calls += [(c, row_of(n, [[0, 2, 4, 6]])) for c in THREE_KINDS]
        calls += [(GATES, row_of(n, [[5, 0, 0]])), (5, row_of(n)), (GREATEST_KIND, row_of(n))]
    gate = [4, GREATEST_NUMBER, GREATEST_NUMBER]
    return calls + [(GATES, row_of(GREATEST_NUMBER, [gate]))]


def calls_too_large_to_try():
    """Pairs of a kind and a row of which each is refused by point 2 where all lists are tried."""
    calls = []
    for c in KINDS:
        calls += [(c, row_of(n)) for n in (13, 14, 64, 1000, 1001, GREATEST_NUMBER)]
    for c in WISH_KINDS:
        # An empty wish has no right solution, but to be too large comes first.
        calls += [(c, row_of(n, [[]])) for n in (13, 1001)]
        calls += [(c, row_of(GREATEST_NUMBER // 2 + 1, [[GREATEST_NUMBER]]))]
    gate = [4, GREATEST_NUMBER, GREATEST_NUMBER]
    calls += [(GATES, row_of(n, [[0, 0, 0]])) for n in (13, 1001)]
    return calls + [(GATES, row_of(GREATEST_NUMBER, [[0, 0, 0], gate]))]


def wrong_turns():
    """Pairs of a turn and a row of which each is refused by point 1."""
    calls = []
    for t in (8, 9, 1000, GREATEST_KIND):
        calls += [(t, p) for p in ([0, 0], [3, 0, 2, 0, 2], [2, 0, 3, 2, 0, 1], [])]
    for c, p in wrong_calls():
        calls += [(t, p) for t in TURNS if FROM[t] == c]
    for t in TURNS:
        if t not in (0, 6):
            calls += [(t, row_of(4, [[0, 3, 4, 7]])), (t, row_of(7, [[0, 2], [1, 3, 5, 9, 12], [4]]))]
        if t == 7:
            calls += [(t, row_of(2, [[0, 3]])), (t, row_of(2, [[]])), (t, row_of(3, [[0, 2, 4], [1]]))]
        else:
            calls += [(t, row_of(2, [[2, 1, 1]])), (t, row_of(0, [[0, 0, 0]])), (t, row_of(2, [[1, 0, 0]]))]
    return calls


def wrong_and_large_turns():
    """Pairs of a turn and a row that are refused by point 1 ahead of point 2."""
    calls = []
    for n in (40001, GREATEST_NUMBER):
        for t in TURNS:
            calls += [(t, row_of(n, (), 1)), (t, row_of(n) + [1]), (t, row_of(n, [[2, 2]]))]
            if FROM[t] in THREE_KINDS:
                calls += [(t, row_of(n, [[0, 2, 4, 6]]))]
        calls += [(7, row_of(n, [[5, 0, 0]])), (8, row_of(n)), (GREATEST_KIND, row_of(n))]
    gate = [4, GREATEST_NUMBER, GREATEST_NUMBER]
    return calls + [(7, row_of(GREATEST_NUMBER, [gate]))]


def turns_too_large():
    """Pairs of a turn and a row of which each is refused by point 2."""
    calls = [(t, row_of(n)) for t in TURNS for n in (40001, GREATEST_NUMBER)]
    for t in TURNS[:7]:
        calls += [(t, row_of(39996, [[0, 3], [5]])), (t, row_of(40000, [[]])), (t, row_of(39603, [[]] * 398))]
        calls += [(t, row_of(GREATEST_NUMBER // 2 + 1, [[GREATEST_NUMBER]]))]
    wish = [2 * flag + flag % 3 % 2 for flag in range(397)]
    calls += [(t, row_of(39603, [wish])) for t in (0, 6)]
    gate = [4, GREATEST_NUMBER, GREATEST_NUMBER]
    calls += [(7, row_of(39993, [[1, 0, 0], [3, 7, 39992]])), (7, row_of(39605, [[0, 0, 0]] * 99))]
    return calls + [(7, row_of(GREATEST_NUMBER, [[0, 0, 0], gate]))]


def mixed_calls():
    """Pairs of a kind and a row: such as are answered, and such as are refused."""
    return [
        (0, row_of(3, [[0, 2, 4], [1]])),
        (1, row_of(3, [[0, 2, 4], [1]])),
        (2, row_of(3, [[0, 2, 4]])),
        (3, row_of(3, [[0, 2, 4]])),
        (3, row_of(3, [[0, 2, 4], [1]])),
        (GATES, row_of(2, [[4, 0, 1], [1, 2, 0]])),
        (GATES, row_of(2, [[4, 1, 0]])),
        (0, row_of(13)),
        (0, []),
    ]


def not_rows():
    """Lists that aren't a puzzle's row, whatever the kind."""
    return [
        [],
        [0],
        [3],
        [GREATEST_NUMBER],
        [3, 0, 1],
        [3, 0, 3, 0, 0],
        [3, 0, 3, 2, 0, 1, 3, 2, 0],
        [3, 0, GREATEST_NUMBER],
        [3, 0, GREATEST_NUMBER, 2, 0, 1],
        [GREATEST_NUMBER] * 400,
        [0, 0] + [1] * 397,
    ]


def with_k():
    """Rows of puzzles whose k isn't 0."""
    return [row_of(0, (), 1), row_of(3, (), 1), row_of(3, (), 2), row_of(3, (), GREATEST_NUMBER)]


def wrong_wishes():
    """Pairs of n and rows of which one isn't a wish."""
    return [
        (3, [[0, 0]]),
        (3, [[0, 1]]),
        (3, [[1, 0]]),
        (3, [[0, 4, 5]]),
        (3, [[2, 0]]),
        (3, [[0, 5, 2]]),
        (3, [[0, 2], [5, 3]]),
        (3, [[6]]),
        (3, [[7]]),
        (3, [[0, 2], [4, 6]]),
        (0, [[0]]),
        (0, [[1]]),
        (1, [[2]]),
        (3, [[GREATEST_NUMBER]]),
        (GREATEST_NUMBER // 2, [[GREATEST_NUMBER]]),
    ]


def wrong_gates():
    """Pairs of n and rows of which one isn't a gate that may stand there."""
    pairs = [
        (2, [[]]),
        (2, [[0]]),
        (2, [[1, 0]]),
        (2, [[2, 0, 1, 0]]),
        (2, [[0, 0, 0, 0]]),
        (2, [[0, 1, 0]]),
        (2, [[0, 0, 1]]),
        (2, [[1, 0, 1]]),
        (2, [[1, 1, 1]]),
        (2, [[1, 2, 0]]),
        (2, [[1, 3, 0]]),
        (0, [[1, 0, 0]]),
        (0, [[2, 0, 0]]),
        (0, [[0, 0, 0], [1, 1, 0]]),
        (2, [[1, 0, 0], [1, 3, 0]]),
        (2, [[5, 0, 0]]),
        (2, [[5, 0, 1]]),
        (2, [[GREATEST_NUMBER, 0, 1]]),
        (2, [[1, GREATEST_NUMBER, 0]]),
    ]
    for work in (2, 3, 4):
        pairs += [
            (2, [[work, 1, 0]]),
            (2, [[work, 0, 2]]),
            (2, [[work, 2, 2]]),
            (2, [[work, 0, 3]]),
            (2, [[work, 0, 1], [work, 1, 3]]),
            (2, [[work, 0, 1], [work, 2, 1]]),
            (2, [[work, 0, GREATEST_NUMBER]]),
        ]
    return pairs


class WithSolution:
    """What is tested alike of there and home; a test case sets call to the one of them."""

    call = None

    def test_wrong_puzzles_and_turns(self):
        for t, p in wrong_turns() + wrong_and_large_turns():
            for s in some_told(p):
                self.assertEqual(self.call(t, p, s), WRONG, (t, p, s))

    def test_too_much_work_comes_ahead_of_what_is_not_right(self):
        for t, p in turns_too_large():
            for s in some_told(p):
                self.assertEqual(self.call(t, p, s), TOO_LARGE, (t, p, s))

    def test_work_that_is_not_too_much(self):
        # With so many flags no s is long enough to be right, but the work is not refused.
        for t in TURNS:
            for n in (2001, 39999, 40000):
                self.assertEqual(self.call(t, row_of(n), [1] * 2000), NOT_RIGHT)
                self.assertEqual(self.call(t, row_of(n), []), NOT_RIGHT)
            if t != 7:
                self.assertEqual(self.call(t, row_of(39995, [[0, 3], [5]]), []), NOT_RIGHT)
                self.assertEqual(self.call(t, row_of(39999, [[]]), [0]), NOT_RIGHT)
        self.assertEqual(self.call(7, row_of(39992, [[1, 0, 0], [3, 7, 39992]]), [1]), NOT_RIGHT)

    def test_greatest_numbers(self):
        for t in TURNS + (8, GREATEST_KIND):
            self.assertEqual(self.call(t, [GREATEST_NUMBER] * 400, [GREATEST_TOLD] * 2000), WRONG)

    def test_empty(self):
        for t in TURNS + (8, GREATEST_KIND):
            self.assertEqual(self.call(t, [], []), WRONG)
            self.assertEqual(self.call(t, [], [1, 0]), WRONG)

    def test_what_is_handed_in_stays_and_the_answer_too(self):
        calls = [(0, row_of(40001), [1]), (3, row_of(4, [[0, 2, 4, 6]]), [0]), (8, [0, 0], []), (7, [], [])]
        calls += self.several_calls()
        answers = [self.call(t, list(p), list(s)) for t, p, s in calls]
        for (t, p, s), answer in zip(calls, answers):
            before = (list(p), list(s))
            got = self.call(t, p, s)
            self.assertEqual(((p, s), got), (before, answer))
            for place in range(len(got)):
                got[place] = 9
            got.append(9)
            self.assertEqual(((p, s), self.call(t, p, s)), (before, answer))

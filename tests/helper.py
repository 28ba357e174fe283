"""What the tests of several calls share: rows of puzzles, wrong puzzles, a second judge."""

from itertools import combinations, product

KINDS = (0, 1, 2, 3, 4)
WISH_KINDS = (0, 1, 2, 3)
THREE_KINDS = (1, 2, 3)
GATES = 4

GREATEST_NUMBER = 18446744073709551615
GREATEST_KIND = 4294967295

WRONG = [-22]
TOO_LARGE = [-28]


def row_of(n, rows=(), k=0):
    """The row of a puzzle."""
    p = [n, k]
    for row in rows:
        p.append(len(row))
        p.extend(row)
    return p


def parts_of(p):
    """The n and the rows of a puzzle, of its row, whose k is 0."""
    assert p[1] == 0
    rows = []
    start = 2
    while start < len(p):
        end = start + 1 + p[start]
        assert end <= len(p)
        rows.append(p[start + 1:end])
        start = end
    return p[0], rows


def lists_of(n):
    """All lists of n numbers 0 or 1, in order."""
    return [list(told) for told in product((0, 1), repeat=n)]


def judged_right(c, n, rows, s):
    """The document's words on a right solution, written a second time and otherwise."""
    if c != GATES:
        counts = [(sum(1 for x in row if s[x >> 1] ^ (x & 1)), len(row)) for row in rows]
        if c == 2:
            return all(met == 1 for met, whole in counts)
        if c == 3:
            return all(met >= 1 and whole - met >= 1 for met, whole in counts)
        return all(met >= 1 for met, whole in counts)
    lines = [number == 1 for number in s]
    table = {
        0: lambda a, b: False,
        1: lambda a, b: not lines[a],
        2: lambda a, b: lines[a] and lines[b],
        3: lambda a, b: lines[a] or lines[b],
        4: lambda a, b: lines[a] != lines[b],
    }
    for work, a, b in rows:
        lines.append(table[work](a, b))
    return lines[-1:] == [True]


def right_solutions(c, n, rows):
    """All right solutions of a puzzle, in order, as the second judge has them.

    Of wishes and their like flag by flag, so that what can't become right is left early:
    turned puzzles have too many flags to try all lists.
    """
    if c == GATES:
        return [s for s in lists_of(n) if judged_right(c, n, rows, s)]
    if [] in rows:
        return []
    found = [[]]
    for flag in range(n):
        ending = [row for row in rows if row[-1] >> 1 == flag]
        longer = [s + [number] for s in found for number in (0, 1)]
        found = [s for s in longer if judged_right(c, n, ending, s)]
    return found


def wishes_over(n, longest):
    """All wishes over n flags with at most so many sayings."""
    found = []
    for length in range(min(n, longest) + 1):
        for flags in combinations(range(n), length):
            for signs in lists_of(length):
                found.append([2 * flag + sign for flag, sign in zip(flags, signs)])
    return found


def gates_for(line):
    """All gates that may make the line of this number."""
    found = [[0, 0, 0]]
    found += [[1, a, 0] for a in range(line)]
    found += [[work, a, b] for work in (2, 3, 4) for b in range(line) for a in range(b + 1)]
    return found


def small_puzzles(c):
    """All puzzles of kind c with few flags and at most two rows, as pairs of n and rows."""
    for n in range(4 if c != GATES else 3):
        yield n, []
        if c != GATES:
            wishes = wishes_over(n, 3)
            for one in wishes:
                yield n, [one]
                if n < 3:
                    for other in wishes:
                        yield n, [one, other]
        else:
            for one in gates_for(n):
                yield n, [one]
                for other in gates_for(n + 1):
                    yield n, [one, other]


def wrong_calls():
    """Pairs of a kind and a row of which each is refused by point 1."""
    calls = []
    for c in (5, 6, 1000, GREATEST_KIND):
        calls += [(c, p) for p in (row_of(0), row_of(1), row_of(2, [[0, 2]]), row_of(2, [[2, 0, 1]]), [])]
    for c in KINDS:
        calls += [(c, p) for p in not_rows() + with_k()]
    for c in WISH_KINDS:
        calls += [(c, row_of(n, rows)) for n, rows in wrong_wishes()]
    for c in THREE_KINDS:
        calls += [(c, row_of(4, [[0, 2, 4, 6]])), (c, row_of(9, [[0, 3], [1, 2, 5, 7, 16], [4]]))]
    calls += [(GATES, row_of(n, rows)) for n, rows in wrong_gates()]
    return calls


def wrong_and_large_calls():
    """Pairs of a kind and a row that are refused by point 1 ahead of point 2."""
    calls = []
    for n in (13, 1001):
        for c in KINDS:
            calls += [(c, row_of(n, (), 1)), (c, row_of(n) + [1]), (c, row_of(n, [[2, 2]]))]
        calls += [(c, row_of(n, [[0, 2, 4, 6]])) for c in THREE_KINDS]
        calls += [(GATES, row_of(n, [[5, 0, 0]])), (5, row_of(n)), (GREATEST_KIND, row_of(n))]
    gate = [4, GREATEST_NUMBER, GREATEST_NUMBER]
    return calls + [(GATES, row_of(GREATEST_NUMBER, [gate]))]


def calls_too_large_to_try():
    """Pairs of a kind and a row of which each is refused by point 2 where all lists are tried."""
    calls = []
    for c in KINDS:
        calls += [(c, row_of(n)) for n in (13, 14, 64, 1000, 1001, GREATEST_NUMBER)]
    for c in WISH_KINDS:
        # An empty wish has no right solution, but to be too large comes first.
        calls += [(c, row_of(n, [[]])) for n in (13, 1001)]
        calls += [(c, row_of(GREATEST_NUMBER // 2 + 1, [[GREATEST_NUMBER]]))]
    gate = [4, GREATEST_NUMBER, GREATEST_NUMBER]
    calls += [(GATES, row_of(n, [[0, 0, 0]])) for n in (13, 1001)]
    return calls + [(GATES, row_of(GREATEST_NUMBER, [[0, 0, 0], gate]))]


def mixed_calls():
    """Pairs of a kind and a row: such as are answered, and such as are refused."""
    return [
        (0, row_of(3, [[0, 2, 4], [1]])),
        (1, row_of(3, [[0, 2, 4], [1]])),
        (2, row_of(3, [[0, 2, 4]])),
        (3, row_of(3, [[0, 2, 4]])),
        (3, row_of(3, [[0, 2, 4], [1]])),
        (GATES, row_of(2, [[4, 0, 1], [1, 2, 0]])),
        (GATES, row_of(2, [[4, 1, 0]])),
        (0, row_of(13)),
        (0, []),
    ]


def not_rows():
    """Lists that aren't a puzzle's row, whatever the kind."""
    return [
        [],
        [0],
        [3],
        [GREATEST_NUMBER],
        [3, 0, 1],
        [3, 0, 3, 0, 0],
        [3, 0, 3, 2, 0, 1, 3, 2, 0],
        [3, 0, GREATEST_NUMBER],
        [3, 0, GREATEST_NUMBER, 2, 0, 1],
        [GREATEST_NUMBER] * 400,
        [0, 0] + [1] * 397,
    ]


def with_k():
    """Rows of puzzles whose k isn't 0."""
    return [row_of(0, (), 1), row_of(3, (), 1), row_of(3, (), 2), row_of(3, (), GREATEST_NUMBER)]


def wrong_wishes():
    """Pairs of n and rows of which one isn't a wish."""
    return [
        (3, [[0, 0]]),
        (3, [[0, 1]]),
        (3, [[1, 0]]),
        (3, [[0, 4, 5]]),
        (3, [[2, 0]]),
        (3, [[0, 5, 2]]),
        (3, [[0, 2], [5, 3]]),
        (3, [[6]]),
        (3, [[7]]),
        (3, [[0, 2], [4, 6]]),
        (0, [[0]]),
        (0, [[1]]),
        (1, [[2]]),
        (3, [[GREATEST_NUMBER]]),
        (GREATEST_NUMBER // 2, [[GREATEST_NUMBER]]),
    ]


def wrong_gates():
    """Pairs of n and rows of which one isn't a gate that may stand there."""
    pairs = [
        (2, [[]]),
        (2, [[0]]),
        (2, [[1, 0]]),
        (2, [[2, 0, 1, 0]]),
        (2, [[0, 0, 0, 0]]),
        (2, [[0, 1, 0]]),
        (2, [[0, 0, 1]]),
        (2, [[1, 0, 1]]),
        (2, [[1, 1, 1]]),
        (2, [[1, 2, 0]]),
        (2, [[1, 3, 0]]),
        (0, [[1, 0, 0]]),
        (0, [[2, 0, 0]]),
        (0, [[0, 0, 0], [1, 1, 0]]),
        (2, [[1, 0, 0], [1, 3, 0]]),
        (2, [[5, 0, 0]]),
        (2, [[5, 0, 1]]),
        (2, [[GREATEST_NUMBER, 0, 1]]),
        (2, [[1, GREATEST_NUMBER, 0]]),
    ]
    for work in (2, 3, 4):
        pairs += [
            (2, [[work, 1, 0]]),
            (2, [[work, 0, 2]]),
            (2, [[work, 2, 2]]),
            (2, [[work, 0, 3]]),
            (2, [[work, 0, 1], [work, 1, 3]]),
            (2, [[work, 0, 1], [work, 2, 1]]),
            (2, [[work, 0, GREATEST_NUMBER]]),
        ]
    return pairs

"""The kinds of puzzles: their rows, and which solutions of them are right.

A puzzle's row is n, k, then each of its rows behind how many numbers this has.
"""

# The kinds; threes, 1, are right as wishes are and so are never asked for by name.
WISHES = 0
JUST_ONE = 2
NOT_ALL_ALIKE = 3
GATES = 4

NEVER_UP = 0
UP_IF_NOT = 1
UP_IF_BOTH = 2
UP_IF_ANY = 3
UP_IF_JUST_ONE = 4

MOST_SAYINGS_OF_THREES = 3


def rows_of(p):
    """The rows of the puzzle whose row is p; None if p isn't a puzzle's row."""
    if len(p) < 2:
        return None
    rows = []
    start = 2
    while start < len(p):
        end = start + 1 + p[start]
        if end > len(p):
            return None
        rows.append(p[start + 1:end])
        start = end
    return rows


def row_of(n, rows):
    """The row of the puzzle with this n and these rows."""
    p = [n, 0]
    for row in rows:
        p.append(len(row))
        p.extend(row)
    return p


def size_of(n, rows):
    """The size of a puzzle: n, its rows and the numbers in these, together."""
    return n + len(rows) + sum([len(row) for row in rows])


def is_wish(row, n):
    """Whether row holds sayings of different ones of n flags, in the order of the flags."""
    before = -1
    for saying in row:
        flag = saying // 2
        if flag <= before or flag >= n:
            return False
        before = flag
    return True


def is_gate(row, line):
    """Whether row is a gate that may make the line of this number."""
    if len(row) != 3:
        return False
    work = row[0]
    a = row[1]
    b = row[2]
    if work == NEVER_UP:
        return a == 0 and b == 0
    if work == UP_IF_NOT:
        return a < line and b == 0
    return work <= UP_IF_JUST_ONE and a <= b and b < line


def are_gates(rows, n):
    """Whether rows are gates that make line after line behind the n given ones."""
    line = n
    for row in rows:
        if not is_gate(row, line):
            return False
        line = line + 1
    return True


def is_of_kind(c, n, rows):
    """Whether the rows are such as a puzzle of kind c with this n may have."""
    if c == GATES:
        return are_gates(rows, n)
    for row in rows:
        if not is_wish(row, n):
            return False
        if c != WISHES and len(row) > MOST_SAYINGS_OF_THREES:
            return False
    return True


def is_met(saying, s):
    """Whether the saying is so when the flags are as s tells."""
    says_up = saying % 2 == 0
    is_up = s[saying // 2] == 1
    return says_up == is_up


def met_of(row, s):
    """Of each saying of a row 1 if it's so when the flags are as s tells, else 0."""
    return [1 if is_met(saying, s) else 0 for saying in row]


def row_holds(c, row, s):
    """Whether s does what a row asks in a puzzle of kind c, which isn't gates."""
    met = sum(met_of(row, s))
    if c == JUST_ONE:
        return met == 1
    if c == NOT_ALL_ALIKE:
        return 0 < met and met < len(row)
    return met > 0


def gate_answer(gate, lines):
    """1 if the line that the gate makes of these lines is up, else 0."""
    work = gate[0]
    # There may be no line at all ahead of such a gate, so none is looked at.
    if work == NEVER_UP:
        return 0
    a = lines[gate[1]]
    if work == UP_IF_NOT:
        return 1 - a
    b = lines[gate[2]]
    if work == UP_IF_BOTH:
        return a & b
    if work == UP_IF_ANY:
        return a | b
    return a ^ b


def all_lines(gates, s):
    """Of all lines 1 if they're up, else 0; the given ones, which are as s tells, come first."""
    lines = list(s)
    for gate in gates:
        lines.append(gate_answer(gate, lines))
    return lines


def last_line_is_up(gates, s):
    """Whether the last of all lines is up when the given ones are as s tells."""
    lines = all_lines(gates, s)
    return len(lines) > 0 and lines[-1] == 1


def solves(c, rows, s):
    """Whether s, which tells 0 or 1 of each flag, is right."""
    if c == GATES:
        return last_line_is_up(rows, s)
    for row in rows:
        if not row_holds(c, row, s):
            return False
    return True


def tells_each(s, n):
    """Whether s tells of each of n flags, and of nothing else, whether it's up."""
    return len(s) == n and all([number <= 1 for number in s])


def lists_to_try(n):
    """All lists of n numbers 0 or 1, in order."""
    lists = [[]]
    for flag in range(n):
        lists = [[0] + rest for rest in lists] + [[1] + rest for rest in lists]
    return lists

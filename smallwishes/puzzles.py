"""The calls: which solutions of a puzzle are right, what a puzzle is turned into, and where solutions go."""

from smallwishes.kinds import MOST_SAYINGS_OF_THREES, NEVER_UP, UP_IF_ANY, UP_IF_BOTH, UP_IF_JUST_ONE, UP_IF_NOT
from smallwishes.kinds import all_lines, is_of_kind, lists_to_try, met_of, row_of, rows_of, size_of, solves, tells_each

LAST_KIND = 4
LAST_TURN = 7
# Of each turn the kind that it goes from, and the one that it goes to.
KINDS_TURNED = (0, 1, 1, 2, 1, 3, 0, 4)
KINDS_MADE = (1, 0, 2, 0, 3, 0, 4, 0)
TURN_WITH_COMMON_FLAG = 4

WRONG_PUZZLE = -22
TOO_LARGE = -28
NO_SOLUTION = -6
NOT_RIGHT = -71

MOST_SIZE = 1000
MOST_WORK = 40000
# Twelve numbers, each 0 or 1, make 4,096 lists: the bound on lists asks nothing more.
MOST_NUMBERS_TRIED = 12


def refusal(c, p, most):
    """The refusal that is due if p isn't a puzzle of kind c or its size is above most; 0 if none is."""
    rows = rows_of(p)
    if c > LAST_KIND or rows is None:
        return WRONG_PUZZLE
    n = p[0]
    k = p[1]
    if k != 0 or not is_of_kind(c, n, rows):
        return WRONG_PUZZLE
    if size_of(n, rows) > most:
        return TOO_LARGE
    return 0


def refusal_to_try(c, p):
    """The refusal that is due where all lists that may be solutions are tried; 0 if none is."""
    refused = refusal(c, p, MOST_SIZE)
    if refused < 0:
        return refused
    if p[0] > MOST_NUMBERS_TRIED:
        return TOO_LARGE
    return 0


def refusal_to_turn(t, p):
    """The refusal that is due if p isn't a puzzle that turn t turns or its work is too much; 0 if none is."""
    if t > LAST_TURN:
        return WRONG_PUZZLE
    return refusal(KINDS_TURNED[t], p, MOST_WORK)


def is_solution(c, p, s):
    """Whether s is a right solution of p, a puzzle of kind c."""
    return tells_each(s, p[0]) and solves(c, rows_of(p), s)


def counted(numbers):
    """The numbers behind how many they are."""
    return [len(numbers)] + numbers


def opposite(saying):
    """The other saying of the same flag."""
    return saying ^ 1


def opposites(row):
    """The opposite of each saying of a row."""
    return [opposite(saying) for saying in row]


def wishes_to_threes(n, rows):
    """Turn 0: while a wish is too long a new flag stands for its first two sayings."""
    threes = []
    flags = n
    for row in rows:
        wish = row
        while len(wish) > MOST_SAYINGS_OF_THREES:
            a = wish[0]
            b = wish[1]
            y = 2 * flags
            flags = flags + 1
            threes.extend([[opposite(a), y], [opposite(b), y], [a, b, opposite(y)]])
            wish = wish[2:] + [y]
        threes.append(wish)
    return row_of(flags, threes)


def threes_to_wishes(n, rows):
    """Turn 1: threes are wishes as they are."""
    return row_of(n, rows)


def just_ones_of_two(x, y, flag):
    """The rows of just one for a row of two, with three new flags from this one on."""
    a = 2 * flag
    b = a + 2
    c = a + 4
    return [[opposite(x), a, b], [opposite(y), a, c], [a, b, c]]


def just_ones_of_three(x, y, z, flag):
    """The rows of just one for a row of three, with eight new flags from this one on."""
    a = 2 * flag
    b = a + 2
    c = a + 4
    d = a + 6
    e = a + 8
    of_x_and_y = [[opposite(x), a, b], [opposite(y), a, c], [b, c, d], [a, opposite(d), opposite(e)]]
    # e is up if x or y is met, so what is left to ask for is z or e.
    return of_x_and_y + just_ones_of_two(z, e, flag + 5)


def threes_to_just_one(n, rows):
    """Turn 2: new flags tell which sayings of a row of two or three are met."""
    turned = []
    flags = n
    for row in rows:
        if len(row) < 2:
            turned.append(row)
        elif len(row) == 2:
            turned.extend(just_ones_of_two(row[0], row[1], flags))
            flags = flags + 3
        else:
            turned.extend(just_ones_of_three(row[0], row[1], row[2], flags))
            flags = flags + 8
    return row_of(flags, turned)


def just_one_to_wishes(n, rows):
    """Turn 3: one saying at least of a row is met, and of each two one isn't."""
    wishes = []
    for row in rows:
        wishes.append(row)
        for place in range(len(row)):
            for other in row[place + 1:]:
                wishes.append(opposites([row[place], other]))
    return row_of(n, wishes)


def threes_to_not_all_alike(n, rows):
    """Turn 4: a common flag stands for what's down, and a flag of its own parts each row of three."""
    turned = []
    common = 2 * n
    flags = n + 1
    for row in rows:
        if len(row) == 0:
            turned.append(row)
        elif len(row) < 3:
            turned.append(row + [common])
        else:
            u = 2 * flags
            flags = flags + 1
            turned.extend([[row[0], row[1], u], [row[2], common, opposite(u)]])
    return row_of(flags, turned)


def not_all_alike_to_wishes(n, rows):
    """Turn 5: one saying at least of a row is met, and one at least isn't."""
    wishes = []
    for row in rows:
        wishes.extend([row, opposites(row)])
    return row_of(n, wishes)


def wishes_to_gates(n, rows):
    """Turn 6: line by line what's met so far of a wish, and what holds of all wishes so far."""
    never = 2 * n
    gates = [[UP_IF_NOT, flag, 0] for flag in range(n)] + [[NEVER_UP, 0, 0], [UP_IF_NOT, never, 0]]
    holds = never + 1
    for row in rows:
        so_far = never
        for saying in row:
            gates.append([UP_IF_ANY, saying // 2 + n * (saying % 2), so_far])
            so_far = n + len(gates) - 1
        # An empty wish leaves so far at a line that comes ahead of what holds.
        gates.append([UP_IF_BOTH, min(holds, so_far), max(holds, so_far)])
        holds = n + len(gates) - 1
    return row_of(n, gates)


def wishes_of_gate(gate, line):
    """The wishes that ask of this line to be as the gate makes it."""
    work = gate[0]
    a = 2 * gate[1]
    b = 2 * gate[2]
    g = 2 * line
    not_a = opposite(a)
    not_b = opposite(b)
    not_g = opposite(g)
    if work == NEVER_UP or (work == UP_IF_JUST_ONE and a == b):
        return [[not_g]]
    if work == UP_IF_NOT:
        return [[a, g], [not_a, not_g]]
    if a == b:
        return [[a, not_g], [not_a, g]]
    if work == UP_IF_BOTH:
        return [[a, not_g], [b, not_g], [not_a, not_b, g]]
    if work == UP_IF_ANY:
        return [[not_a, g], [not_b, g], [a, b, not_g]]
    return [[a, b, not_g], [not_a, not_b, not_g], [not_a, b, g], [a, not_b, g]]


def gates_to_wishes(n, rows):
    """Turn 7: each line is a flag that is as its gate makes it, and the last is up."""
    wishes = []
    lines = n
    for gate in rows:
        wishes.extend(wishes_of_gate(gate, lines))
        lines = lines + 1
    if lines == 0:
        wishes.append([])
    else:
        wishes.append([2 * lines - 2])
    return row_of(lines, wishes)


TURNS = (
    wishes_to_threes, threes_to_wishes, threes_to_just_one, just_one_to_wishes,
    threes_to_not_all_alike, not_all_alike_to_wishes, wishes_to_gates, gates_to_wishes,
)


def goes_to_threes(rows, s):
    """There by turn 0: a new flag is up if one of the two sayings is met for which it stands."""
    told = list(s)
    for row in rows:
        wish = row
        while len(wish) > MOST_SAYINGS_OF_THREES:
            y = 2 * len(told)
            # One of the two may be a new flag itself, so what's told so far is asked.
            told.append(max(met_of(wish[:2], told)))
            wish = wish[2:] + [y]
    return told


def told_of_two(x, y):
    """What new flags tell of two sayings, each 1 if met: both are, the first alone, the second alone."""
    return [x & y, x & (1 - y), y & (1 - x)]


def told_of_three(x, y, z):
    """What new flags tell of three sayings, each 1 if met."""
    e = x | y
    return told_of_two(x, y) + [1 - (x ^ y), e] + told_of_two(z, e)


def goes_to_just_one(rows, s):
    """There by turn 2: new flags tell which sayings of a row of two or three are met."""
    told = list(s)
    for row in rows:
        met = met_of(row, s)
        if len(row) == 2:
            told.extend(told_of_two(met[0], met[1]))
        elif len(row) == 3:
            told.extend(told_of_three(met[0], met[1], met[2]))
    return told


def goes_to_not_all_alike(rows, s):
    """There by turn 4: the common flag is down, and a row's own is up if neither of its first two sayings is met."""
    told = s + [0]
    for row in rows:
        if len(row) == 3:
            told.append(1 - max(met_of(row[:2], s)))
    return told


def goes_to_wishes_of_gates(rows, s):
    """There by turn 7: of all lines whether they're up."""
    return all_lines(rows, s)


def goes_as_it_is(rows, s):
    """There by the other turns, of which a solution tells of the same flags, or lines given, as before."""
    return s


GOES_THERE = (
    goes_to_threes, goes_as_it_is, goes_to_just_one, goes_as_it_is,
    goes_to_not_all_alike, goes_as_it_is, goes_as_it_is, goes_to_wishes_of_gates,
)


def comes_home(t, n, s):
    """The solution of a puzzle with this n as which s, one of the puzzle turned by turn t, comes home."""
    if t != TURN_WITH_COMMON_FLAG:
        return s[:n]
    # With all flags turned s is right as well, so a flag tells something only beside the common one.
    return [number ^ s[n] for number in s[:n]]


def right(c, p, s):
    """Answers 1 if s is a right solution of p, a puzzle of kind c, else 0."""
    refused = refusal(c, p, MOST_SIZE)
    if refused < 0:
        return [refused]
    if is_solution(c, p, s):
        return [1]
    return [0]


def many(c, p):
    """Answers how many right solutions p has, a puzzle of kind c."""
    refused = refusal_to_try(c, p)
    if refused < 0:
        return [refused]
    rows = rows_of(p)
    return [len([s for s in lists_to_try(p[0]) if solves(c, rows, s)])]


def first(c, p):
    """Answers how many numbers the first right solution of p has, a puzzle of kind c, then these."""
    refused = refusal_to_try(c, p)
    if refused < 0:
        return [refused]
    rows = rows_of(p)
    for s in lists_to_try(p[0]):
        if solves(c, rows, s):
            return counted(s)
    return [NO_SOLUTION]


def turn(t, p):
    """Answers how many numbers the row has of the puzzle that p is turned into, then these."""
    refused = refusal_to_turn(t, p)
    if refused < 0:
        return [refused]
    return counted(TURNS[t](p[0], rows_of(p)))


def there(t, p, s):
    """Answers how many numbers the solution of the turned puzzle has to which s, one of p, goes, then these."""
    refused = refusal_to_turn(t, p)
    if refused < 0:
        return [refused]
    if not is_solution(KINDS_TURNED[t], p, s):
        return [NOT_RIGHT]
    return counted(GOES_THERE[t](rows_of(p), s))


def home(t, p, s):
    """Answers how many numbers the solution of p has as which s, one of the turned puzzle, comes home, then these."""
    refused = refusal_to_turn(t, p)
    if refused < 0:
        return [refused]
    n = p[0]
    if not is_solution(KINDS_MADE[t], TURNS[t](n, rows_of(p)), s):
        return [NOT_RIGHT]
    return counted(comes_home(t, n, s))

"""The transform of a row of pairs, whatever its length."""

from bitsignals.conversions import of_double
from bitsignals.plain import Plain
from bitsignals.spread import Spread, all_below
from bitsignals.turns import cosine_and_sine, quarters_and_rest

# 2 to the 100 and to the 1000: 8192 sizes below it can't add up beyond the greatest number.
TAME = (0x71800000, 0x7E70000000000000)
# No cosine and no sine of 8192 parts of a turn or fewer, but 0, is so small that it has a place below.
PLACES = 80


def arithmetic_for(f, row):
    tame = all_below(f, [x1 for x1, x2 in row], TAME[f]) and all_below(f, [x2 for x1, x2 in row], TAME[f])
    return Spread(f, PLACES) if tame else Plain(f)


def transform(f, row):
    numbers = arithmetic_for(f, row)
    n = len(row)
    table = [part_of_turn(numbers, f, n, j) for j in range(n)]
    # All rows that a level puts together, from the rows of one number up to the one of all.
    rows = [[(numbers.taken(x1), numbers.taken(x2))] for x1, x2 in row]
    for p in reversed(divisors(n)):
        count = len(rows) // p
        # The j-th of so many fewer parts is that many times the j-th of n.
        parts = table[::count]
        rows = [together(numbers, parts, rows[i::count]) for i in range(count)]
    return [(numbers.given(x1), numbers.given(x2)) for x1, x2 in rows[0]]


def divisors(n):
    """What n is divided by, step by step, until 1 is left."""
    found = []
    while n > 1:
        p = divisor(n)
        found.append(p)
        n = n // p
    return found


def divisor(n):
    if n % 4 == 0:
        return 4
    if n % 2 == 0:
        return 2
    p = 3
    while p * p <= n:
        if n % p == 0:
            return p
        p = p + 2
    return n


def part_of_turn(numbers, f, n, j):
    """(quarter, c, s) of j of n parts: where there is a quarter, what is turned needs no product."""
    quarter, rest = quarters_and_rest(n, j)
    if rest == 0:
        return (quarter, None, None)
    c, s = cosine_and_sine(n, j)
    return (None, numbers.factor(of_double(f, c)), numbers.factor(of_double(f, s)))


def turned_back(numbers, part, x1, x2):
    quarter, c, s = part
    if quarter is None:
        # The product of (c, -s) and x: two signs that cancel one another are left out.
        first = numbers.plus(numbers.times(x1, c), numbers.times(x2, s))
        second = numbers.less(numbers.times(x2, c), numbers.times(x1, s))
        return (first, second)
    if quarter == 0:
        return (x1, x2)
    if quarter == 1:
        return (x2, numbers.minus(x1))
    if quarter == 2:
        return (numbers.minus(x1), numbers.minus(x2))
    return (numbers.minus(x2), x1)


def together(numbers, parts, rows):
    """One row of the transforms of its p rows."""
    if len(rows) == 2:
        return two_together(numbers, parts, rows)
    if len(rows) == 4:
        return four_together(numbers, parts, rows)
    return many_together(numbers, parts, rows)


def pairs_added(numbers, x, y):
    return (numbers.plus(x[0], y[0]), numbers.plus(x[1], y[1]))


def pairs_subtracted(numbers, x, y):
    return (numbers.less(x[0], y[0]), numbers.less(x[1], y[1]))


def two_together(numbers, parts, rows):
    lower = []
    upper = []
    for k, t0 in enumerate(rows[0]):
        x1, x2 = rows[1][k]
        t1 = turned_back(numbers, parts[k], x1, x2)
        lower.append(pairs_added(numbers, t0, t1))
        upper.append(pairs_subtracted(numbers, t0, t1))
    return lower + upper


def four_together(numbers, parts, rows):
    quarters = ([], [], [], [])
    for k, t0 in enumerate(rows[0]):
        t = [turned_back(numbers, parts[i * k], rows[i][k][0], rows[i][k][1]) for i in (1, 2, 3)]
        a = pairs_added(numbers, t0, t[1])
        b = pairs_subtracted(numbers, t0, t[1])
        c = pairs_added(numbers, t[0], t[2])
        d = pairs_subtracted(numbers, t[0], t[2])
        quarters[0].append(pairs_added(numbers, a, c))
        quarters[1].append((numbers.plus(b[0], d[1]), numbers.less(b[1], d[0])))
        quarters[2].append(pairs_subtracted(numbers, a, c))
        quarters[3].append((numbers.less(b[0], d[1]), numbers.plus(b[1], d[0])))
    return quarters[0] + quarters[1] + quarters[2] + quarters[3]


def many_together(numbers, parts, rows):
    n = len(parts)
    m = len(rows[0])
    joined = []
    for j in range(n):
        total = rows[0][j % m]
        for i in range(1, len(rows)):
            x1, x2 = rows[i][j % m]
            total = pairs_added(numbers, total, turned_back(numbers, parts[i * j % n], x1, x2))
        joined.append(total)
    return joined

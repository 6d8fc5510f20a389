"""The document's words reckoned apart from the program, in the machine's own floating numbers.

Numbers are Python's floats here; fit rounds one to its format. A single's sum, product or quotient, taken in
doubles and then rounded to a single, is the one that a single rounding gives (see hardware.py).
"""

import ctypes

from tests import hardware

SINE = [hardware.to_number(1, bits) for bits in (
    0xBFC5555555555549, 0x3F8111111110F8A6, 0xBF2A01A019C161D5, 0x3EC71DE357B1FE7D, 0xBE5AE5E68A2B9CEB,
    0x3DE5D93A5ACFD57C)]
COSINE = [hardware.to_number(1, bits) for bits in (
    0x3FA555555555554C, 0xBF56C16C16C15177, 0x3EFA01A019CB1590, 0xBE927E4F809C52AD, 0x3E21EE9EBDB4B1C4,
    0xBDA8FAE9BE8838D4)]
HALF_PI = hardware.to_number(1, 0x3FF921FB54442D18)
ROOT = hardware.to_number(1, 0x3FE6A09E667F3BCD)


def fit(f, number):
    return number if f == 1 else ctypes.c_float(number).value


def numbers(f, row):
    return [hardware.to_number(f, bits) for bits in row]


def bits_of(f, row):
    return [hardware.to_bits(f, number) for number in row]


def pairs(f, row):
    return list(zip(numbers(f, row[0::2]), numbers(f, row[1::2])))


def bits_of_pairs(f, row):
    return [hardware.to_bits(f, part) for pair in row for part in pair]


# Point 7.

def dot_sum(f, a, b):
    products = [fit(f, x * y) for x, y in zip(a, b)]
    size = (4, 2)[f]
    total = 0.0
    for i in range(0, len(products), size):
        group = (products[i:i + size] + [0.0] * size)[:size]
        sums = [fit(f, group[k] + group[k + 1]) for k in range(0, size, 2)]
        total = fit(f, total + (sums[0] if f == 1 else fit(f, sums[0] + sums[1])))
    return total


def dot(f, a, b):
    return [0, hardware.to_bits(f, dot_sum(f, numbers(f, a), numbers(f, b)))]


# Points 10 to 13.

def polynomial(s, z):
    return s[0] + z * (s[1] + z * (s[2] + z * (s[3] + z * (s[4] + z * s[5]))))


def sine(t):
    z = t * t
    return t + (t * z) * polynomial(SINE, z)


def cosine(t):
    z = t * t
    return 1.0 - (z * 0.5 - (z * z) * polynomial(COSINE, z))


def part_of_turn(n, j):
    q, r = (4 * j) // n % 4, (4 * j) % n
    if r == 0:
        return [(1.0, 0.0), (0.0, 1.0), (-1.0, 0.0), (0.0, -1.0)][q]
    if 2 * r == n:
        c, s = ROOT, ROOT
    elif 2 * r < n:
        t = (r / n) * HALF_PI
        c, s = cosine(t), sine(t)
    else:
        t = ((n - r) / n) * HALF_PI
        c, s = sine(t), cosine(t)
    return [(c, s), (-s, c), (-c, -s), (s, -c)][q]


def weight(kind, n, i):
    c = part_of_turn(n, i)[0]
    if kind == 0:
        return 0.5 - 0.5 * c
    if kind == 1:
        return hardware.to_number(1, 0x3FE147AE147AE148) - hardware.to_number(1, 0x3FDD70A3D70A3D71) * c
    d = part_of_turn(n, 2 * i)[0]
    first = hardware.to_number(1, 0x3FDAE147AE147AE1) - 0.5 * c
    return first + hardware.to_number(1, 0x3FB47AE147AE147B) * d


def window(f, kind, x):
    weights = [fit(f, weight(kind, len(x), i)) for i in range(len(x))]
    return [0] + bits_of(f, [fit(f, number * w) for number, w in zip(numbers(f, x), weights)])


def tone(f, n, k):
    return [0] + bits_of_pairs(f, [part_of_turn(n, i * k) for i in range(n)])


# Points 15 to 20.

def turned_back(f, n, j, x):
    x1, x2 = x
    if (4 * j) % n == 0:
        return [(x1, x2), (x2, -x1), (-x1, -x2), (-x2, x1)][(4 * j) // n % 4]
    c, s = part_of_turn(n, j)
    return product(f, (fit(f, c), fit(f, -s)), x)


def product(f, x, y):
    return (fit(f, fit(f, x[0] * y[0]) - fit(f, x[1] * y[1])), fit(f, fit(f, x[0] * y[1]) + fit(f, x[1] * y[0])))


def plus(f, x, y):
    return fit(f, x[0] + y[0]), fit(f, x[1] + y[1])


def less(f, x, y):
    return fit(f, x[0] - y[0]), fit(f, x[1] - y[1])


def divisor(n):
    for p in (4, 2):
        if n % p == 0:
            return p
    return next(p for p in range(3, n + 1, 2) if n % p == 0)


def transform(f, row):
    n = len(row)
    if n == 1:
        return list(row)
    p = divisor(n)
    m = n // p
    parts = [transform(f, row[i::p]) for i in range(p)]
    return [place(f, n, p, m, parts, j) for j in range(n)]


def place(f, n, p, m, parts, j):
    k, v = j % m, j // m
    if p == 2:
        t0, t1 = parts[0][k], turned_back(f, n, k, parts[1][k])
        return plus(f, t0, t1) if v == 0 else less(f, t0, t1)
    if p == 4:
        t = [turned_back(f, n, i * k, parts[i][k]) for i in range(4)]
        a, b, c, d = plus(f, t[0], t[2]), less(f, t[0], t[2]), plus(f, t[1], t[3]), less(f, t[1], t[3])
        return [
            plus(f, a, c),
            (fit(f, b[0] + d[1]), fit(f, b[1] - d[0])),
            less(f, a, c),
            (fit(f, b[0] - d[1]), fit(f, b[1] + d[0])),
        ][v]
    total = parts[0][k]
    for i in range(1, p):
        total = plus(f, total, turned_back(f, n, i * j, parts[i][k]))
    return total


def other(row):
    return [(x1, -x2) for x1, x2 in row]


def way_back(f, row):
    return other(transform(f, other(row)))


def turn(f, way, x):
    row = pairs(f, x)
    return [0] + bits_of_pairs(f, transform(f, row) if way == 0 else way_back(f, row))


def of_firsts(row):
    return [(number, 0.0) for number in row]


def half(f, x):
    return [0] + bits_of_pairs(f, transform(f, of_firsts(numbers(f, x)))[:len(x) // 2 + 1])


def unhalf(f, n, x):
    row = pairs(f, x)
    full = [row[k] if k <= n // 2 else (row[n - k][0], -row[n - k][1]) for k in range(n)]
    return [0] + bits_of(f, [first for first, second in way_back(f, full)])


def round_about(f, op, a, b):
    n = len(a)
    first, second = transform(f, of_firsts(a)), transform(f, of_firsts(b))
    if op == 1:
        second = other(second)
    back = way_back(f, [product(f, x, y) for x, y in zip(first, second)])
    return [fit(f, number / n) for number, rest in back]


def around(f, op, a, b):
    return [0] + bits_of(f, round_about(f, op, numbers(f, a), numbers(f, b)))


def conv(f, n, a, b):
    length = len(a) + len(b) - 1
    if not a or not b or length > n:
        return [-2]
    full = [numbers(f, row) + [0.0] * (n - len(row)) for row in (a, b)]
    return [0] + bits_of(f, round_about(f, 0, *full)[:length])


# Points 21 and 22: the numbers come one after another, as the words have it.

class Stream:
    def __init__(self, up, down, taps):
        self.up, self.down, self.taps = up, down, taps
        self.length = -(-len(taps) // up)
        self.length = -(-self.length // 4) * 4
        self.come, self.gone = [], 0

    def tap(self, place):
        return self.taps[place] if place < len(self.taps) else 0.0

    def before_last(self, j):
        return self.come[-1 - j] if j < len(self.come) else 0.0

    def push(self, most, row):
        was = list(self.come), self.gone
        gone = []
        for number in row:
            self.come.append(number)
            while self.gone * self.down < len(self.come) * self.up:
                f = self.gone * self.down % self.up
                if len(gone) < most:
                    taps = [self.tap(f + self.up * j) for j in range(self.length)]
                    gone.append(dot_sum(0, taps, [self.before_last(j) for j in range(self.length)]))
                else:
                    self.come, self.gone = was
                    return [-2, 0]
                self.gone += 1
        return [len(gone), len(gone)] + bits_of(0, gone)


def stream(up, down, most, taps, x, y, z):
    if not (1 <= up <= 256 and 1 <= down <= 256 and 1 <= len(taps) <= 4096):
        return [-2]
    state = Stream(up, down, numbers(0, taps))
    answer = [0]
    for row in (x, y, z):
        answer += state.push(most, numbers(0, row))
    return answer

"""The parts of a turn: their cosines and sines, in doubles."""

from bitsignals.arithmetic import add, divide, multiply, subtract
from bitsignals.conversions import from_whole, of_double
from bitsignals.floats import SIGN_BIT

DOUBLE = 1
ONE_HALF = 0x3FE0000000000000
ONE_WHOLE = 0x3FF0000000000000
HALF_PI = 0x3FF921FB54442D18
ROOT_OF_HALF = 0x3FE6A09E667F3BCD
# The cosine and the sine of no, one, two and three quarters of a turn.
QUARTERS = (
    (0x3FF0000000000000, 0x0000000000000000),
    (0x0000000000000000, 0x3FF0000000000000),
    (0xBFF0000000000000, 0x0000000000000000),
    (0x0000000000000000, 0xBFF0000000000000),
)
SINE_TERMS = (
    0xBFC5555555555549, 0x3F8111111110F8A6, 0xBF2A01A019C161D5,
    0x3EC71DE357B1FE7D, 0xBE5AE5E68A2B9CEB, 0x3DE5D93A5ACFD57C,
)
COSINE_TERMS = (
    0x3FA555555555554C, 0xBF56C16C16C15177, 0x3EFA01A019CB1590,
    0xBE927E4F809C52AD, 0x3E21EE9EBDB4B1C4, 0xBDA8FAE9BE8838D4,
)


def quarters_and_rest(n, j):
    """The quarters of a turn, 0 to 3, that j of n parts hold, and the rest r: r / n of a quarter."""
    q, r = divmod(4 * j, n)
    return (q % 4, r)


def cosine_and_sine(n, j):
    q, r = quarters_and_rest(n, j)
    if r == 0:
        return QUARTERS[q]
    c, s = in_first_quarter(n, r)
    if q == 0:
        return (c, s)
    if q == 1:
        return (minus(s), c)
    if q == 2:
        return (minus(c), minus(s))
    return (s, minus(c))


def cosine(n, j):
    return cosine_and_sine(n, j)[0]


def multiples_of_part(f, n, k):
    """The cosine and the sine, of format f, of i k of n parts, i from 0 to n - 1."""
    row = []
    for i in range(n):
        c, s = cosine_and_sine(n, i * k)
        row.append((of_double(f, c), of_double(f, s)))
    return row


def minus(a):
    return a ^ SIGN_BIT[DOUBLE]


def in_first_quarter(n, r):
    """The cosine and the sine of r / n of a quarter, r from 1 to n - 1."""
    if 2 * r == n:
        return (ROOT_OF_HALF, ROOT_OF_HALF)
    if 2 * r < n:
        t = angle(r, n)
        return (small_cosine(t), small_sine(t))
    t = angle(n - r, n)
    return (small_sine(t), small_cosine(t))


def angle(r, n):
    share = divide(DOUBLE, from_whole(DOUBLE, r), from_whole(DOUBLE, n))
    return multiply(DOUBLE, share, HALF_PI)


def small_sine(t):
    z = multiply(DOUBLE, t, t)
    tail = multiply(DOUBLE, multiply(DOUBLE, t, z), series(SINE_TERMS, z))
    return add(DOUBLE, t, tail)


def small_cosine(t):
    z = multiply(DOUBLE, t, t)
    tail = multiply(DOUBLE, multiply(DOUBLE, z, z), series(COSINE_TERMS, z))
    return subtract(DOUBLE, ONE_WHOLE, subtract(DOUBLE, multiply(DOUBLE, z, ONE_HALF), tail))


def series(terms, z):
    """The first term + z (the second + z (the third ...)), from the last on."""
    total = terms[5]
    for i in (4, 3, 2, 1, 0):
        total = add(DOUBLE, terms[i], multiply(DOUBLE, z, total))
    return total

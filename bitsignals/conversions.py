"""Numbers of one format as numbers of the other, as whole numbers, and whole numbers as numbers."""

from bitsignals.floats import INFINITY, NAN, SIGN_BIT, SIZE_BITS, is_nan, parts, rounded, whole_size

LEAST_WHOLE = -2147483648
GREATEST_WHOLE = 2147483647
WAYS_TO_WHOLE = 4


def in_format(g, f, a):
    """a, a number of format f, as the nearest one of format g."""
    if is_nan(f, a):
        return NAN[g]
    size = a & SIZE_BITS[f]
    sign = 0 if a == size else SIGN_BIT[g]
    if size == 0:
        return sign
    if size == INFINITY[f]:
        return sign | INFINITY[g]
    m, power = parts(f, size)
    return rounded(g, sign, m, power)


def widened(a):
    return in_format(1, 0, a)


def narrowed(a):
    return in_format(0, 1, a)


def of_double(f, a):
    """a, a double, as a number of format f."""
    return a if f == 1 else narrowed(a)


def to_whole(f, how, a):
    if is_nan(f, a):
        return 0
    # An infinity's bits read as a size beyond every other, which is held like any that is too great.
    size = whole_size(f, how, a)
    return max(LEAST_WHOLE, min(GREATEST_WHOLE, -size if a & SIGN_BIT[f] else size))


def from_whole(f, k):
    if k == 0:
        return 0
    return rounded(f, SIGN_BIT[f] if k < 0 else 0, abs(k), 0)

"""What is done with one or two floating numbers, each result rounded by itself."""

from bitsignals.floats import (
    FRACTION_WIDTH, INFINITY, NAN, ONE, SIGN_BIT, SIZE_BITS, is_less, is_nan, parts, rounded, told, whole_size,
)


def add(f, a, b):
    x = a & SIZE_BITS[f]
    y = b & SIZE_BITS[f]
    if x >= INFINITY[f] or y >= INFINITY[f]:
        return add_endless(f, a, b)
    m, m_power = parts(f, x)
    n, n_power = parts(f, y)
    power = min(m_power, n_power)
    m = m << (m_power - power)
    n = n << (n_power - power)
    total = (-m if a != x else m) + (-n if b != y else n)
    if total == 0:
        # A sum that is zero has the sign only where both numbers have it.
        return a & b & SIGN_BIT[f]
    if total < 0:
        return rounded(f, SIGN_BIT[f], -total, power)
    return rounded(f, 0, total, power)


def add_endless(f, a, b):
    """a + b, where one of them at least is no finite number."""
    if is_nan(f, a) or is_nan(f, b):
        return NAN[f]
    if (a & SIZE_BITS[f]) != INFINITY[f]:
        return b
    if b == a ^ SIGN_BIT[f]:
        return NAN[f]
    return a


def subtract(f, a, b):
    return add(f, a, b ^ SIGN_BIT[f])


def multiply(f, a, b):
    sign = (a ^ b) & SIGN_BIT[f]
    x = a & SIZE_BITS[f]
    y = b & SIZE_BITS[f]
    if x >= INFINITY[f] or y >= INFINITY[f]:
        if is_nan(f, x) or is_nan(f, y) or x == 0 or y == 0:
            return NAN[f]
        return sign | INFINITY[f]
    if x == 0 or y == 0:
        return sign
    m, m_power = parts(f, x)
    n, n_power = parts(f, y)
    return rounded(f, sign, m * n, m_power + n_power)


def divide(f, a, b):
    sign = (a ^ b) & SIGN_BIT[f]
    x = a & SIZE_BITS[f]
    y = b & SIZE_BITS[f]
    if is_nan(f, x) or is_nan(f, y):
        return NAN[f]
    if x == y and (x == 0 or x == INFINITY[f]):
        return NAN[f]
    if x == 0 or y == INFINITY[f]:
        return sign
    if y == 0 or x == INFINITY[f]:
        return sign | INFINITY[f]
    m, m_power = parts(f, x)
    n, n_power = parts(f, y)
    # So far up that even the least m by the greatest n has places beyond the half.
    shift = 2 * FRACTION_WIDTH[f] + 4
    quotient, rest = divmod(m << shift, n)
    return rounded(f, sign, with_rest(quotient, rest), m_power - n_power - shift - 1)


def with_rest(m, rest):
    """Twice m, and 1 where there is a rest: what lies beyond counts when two are as near."""
    return 2 * m + (1 if rest > 0 else 0)


def lesser(f, a, b):
    return told(f, a if is_less(f, a, b) else b)


def greater(f, a, b):
    return told(f, a if is_less(f, b, a) else b)


def with_sign_of(f, a, b):
    return told(f, (a & SIZE_BITS[f]) | (b & SIGN_BIT[f]))


def one_if_less(f, a, b):
    return ONE[f] if is_less(f, a, b) else 0


def opposite(f, a):
    return told(f, a ^ SIGN_BIT[f])


def size_of(f, a):
    return told(f, a & SIZE_BITS[f])


def square_root(f, a):
    if is_nan(f, a) or a > SIGN_BIT[f]:
        return NAN[f]
    if (a & SIZE_BITS[f]) == 0 or a == INFINITY[f]:
        return a
    m, power = parts(f, a)
    # So far up that the root of the least m has places beyond the half.
    shift = 2 * FRACTION_WIDTH[f] + 6
    if (power - shift) % 2 == 1:
        shift = shift + 1
    lifted = m << shift
    root = whole_root(lifted)
    return rounded(f, 0, with_rest(root, lifted - root * root), (power - shift) // 2 - 1)


def whole_root(n):
    """The greatest whole number whose square is at most n, which is above 0."""
    # Newton's steps from above go down until they reach it.
    root = 1 << ((n.bit_length() + 1) // 2)
    better = (root + n // root) // 2
    while better < root:
        root = better
        better = (root + n // root) // 2
    return root


def made_whole(f, how, a):
    if (a & SIZE_BITS[f]) >= INFINITY[f]:
        return told(f, a)
    sign = a & SIGN_BIT[f]
    size = whole_size(f, how, a)
    return sign if size == 0 else rounded(f, sign, size, 0)


def nearest_whole(f, a):
    return made_whole(f, 0, a)


def whole_below(f, a):
    return made_whole(f, 1, a)


def whole_above(f, a):
    return made_whole(f, 2, a)


def whole_towards_zero(f, a):
    return made_whole(f, 3, a)


def one_by(f, a):
    return divide(f, ONE[f], a)


def square(f, a):
    return multiply(f, a, a)


# What each and one do, by op.
OF_TWO = (add, subtract, multiply, divide, lesser, greater, with_sign_of, one_if_less)
OF_ONE = (
    opposite, size_of, square_root, nearest_whole, whole_below, whole_above, whole_towards_zero, one_by, square,
)

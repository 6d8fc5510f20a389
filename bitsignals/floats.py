"""Floating numbers as their bits: what they are made of, how they compare, how a result is rounded.

Each tuple holds the single's value, then the double's: f is the index.
A number's size is its bits without the sign.
"""

SIGN_BIT = (0x80000000, 0x8000000000000000)
SIZE_BITS = (0x7FFFFFFF, 0x7FFFFFFFFFFFFFFF)
INFINITY = (0x7F800000, 0x7FF0000000000000)
NAN = (0x7FC00000, 0x7FF8000000000000)
ONE = (0x3F800000, 0x3FF0000000000000)
FRACTION_WIDTH = (23, 52)
HIDDEN_BIT = (0x800000, 0x10000000000000)
# The least number above 0 is 2 to this power; no number has a place below it.
LEAST_POWER = (-149, -1074)


def is_nan(f, a):
    return (a & SIZE_BITS[f]) > INFINITY[f]


def told(f, a):
    """a as it may stand in an answer: every NaN has the same bits there."""
    return NAN[f] if is_nan(f, a) else a


def is_less(f, a, b):
    if is_nan(f, a) or is_nan(f, b):
        return False
    return rank(f, a) < rank(f, b)


def rank(f, a):
    """A whole number that grows with a, which is no NaN; both zeros have 0."""
    size = a & SIZE_BITS[f]
    return -size if a & SIGN_BIT[f] else size


def parts(f, size):
    """A finite size as (m, power): it is m times 2 to the power."""
    field = size >> FRACTION_WIDTH[f]
    if field == 0:
        return (size, LEAST_POWER[f])
    hidden = HIDDEN_BIT[f]
    return ((size & (hidden - 1)) | hidden, LEAST_POWER[f] + field - 1)


def rounded(f, sign, m, power):
    """The number nearest to m times 2 to the power, of two as near the even one; m is above 0."""
    drop = max(m.bit_length() - FRACTION_WIDTH[f] - 1, LEAST_POWER[f] - power)
    if drop > 0:
        # A half less one carries all that is above the half; an odd last place lets the half itself carry.
        kept = (m + (1 << (drop - 1)) - 1 + ((m >> drop) & 1)) >> drop
    else:
        kept = m << -drop
    # The hidden bit adds 1 to the field of the power, and so does a carry beyond it.
    size = ((power + drop - LEAST_POWER[f]) << FRACTION_WIDTH[f]) + kept
    return sign | min(size, INFINITY[f])


def whole_size(f, how, a):
    """The size of finite a as a whole number: by how 0 the nearest, 1 down, 2 up, 3 towards 0."""
    m, power = parts(f, a & SIZE_BITS[f])
    if power >= 0:
        return m << power
    kept = m >> -power
    rest = m - (kept << -power)
    if steps_away(how, (a & SIGN_BIT[f]) != 0, kept, 2 * rest, 1 << -power):
        return kept + 1
    return kept


def steps_away(how, negative, kept, twice_rest, unit):
    """Whether a size between kept and kept + 1 goes to kept + 1."""
    if how == 0:
        return twice_rest > unit or (twice_rest == unit and kept % 2 == 1)
    if how == 1:
        return negative and twice_rest > 0
    if how == 2:
        return not negative and twice_rest > 0
    return False

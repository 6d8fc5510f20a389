"""Arithmetic on numbers spread out: whole numbers, all on one scale.

It answers the bits that the plain one does, sooner, but it takes finite numbers alone, and who uses it sees to it
that no result grows beyond the greatest number and no factor beyond 2 to the 60. The least number above 0 is 2 to
the 64 here. That leaves room for the signs of zeros: 0 is 1, and -0 is -1, which is too little to count beside any
other number, even times a factor; and two zeros of one sign keep it when they are added. A factor that is 0 has
no sign here, so it is for sums from 0 on alone: in these no zero's sign is left.
"""

from bitsignals.floats import FRACTION_WIDTH, LEAST_POWER, SIGN_BIT, SIZE_BITS, parts, rounded

# The places below the least number above 0.
ROOM = 64


def all_below(f, row, limit):
    """Whether all sizes of a row of numbers are below the limit's."""
    for a in row:
        if (a & SIZE_BITS[f]) >= limit:
            return False
    return True


class Spread:
    def __init__(self, f, factor_places):
        """No factor has a place below 2 to the minus factor_places."""
        self.f = f
        self.places = ROOM - LEAST_POWER[f]
        self.width = FRACTION_WIDTH[f] + 1
        self.factor_places = factor_places

    def taken(self, bits):
        if bits == 0:
            return 1
        if bits == SIGN_BIT[self.f]:
            return -1
        return counted(self.f, bits, self.places)

    def given(self, a):
        sign = SIGN_BIT[self.f] if a < 0 else 0
        size = abs(a)
        return sign if size == 1 else rounded(self.f, sign, size, -self.places)

    def factor(self, bits):
        return counted(self.f, bits, self.factor_places)

    def plus(self, a, b):
        return fitted(a + b, self.width, 0)

    def less(self, a, b):
        return fitted(a - b, self.width, 0)

    def times(self, a, c):
        return fitted(a * c, self.width, self.factor_places)

    def minus(self, a):
        return -a


def counted(f, bits, places):
    """A finite number times 2 to the places, of which it has no more."""
    size = bits & SIZE_BITS[f]
    m, power = parts(f, size)
    number = m << (power + places)
    return number if bits == size else -number


def fitted(a, width, places):
    """a, which has so many places too many, as the nearest number of the width, of two as near the even one."""
    drop = a.bit_length() - width
    if drop < places + ROOM:
        drop = places + ROOM
    # Twice what is kept, and 1 where the half is reached.
    twice = a >> (drop - 1)
    kept = (twice + 1) >> 1
    if twice & 1 and kept & 1 and (twice << (drop - 1)) == a:
        kept = kept - 1
    if kept == 0:
        return -1 if a < 0 else 1
    return kept << (drop - places)

"""The arithmetic of a transform on numbers spread out: whole numbers, all on one scale.

It answers the bits that the plain one does, sooner, but it takes tame numbers alone: finite ones, so far below
the greatest that no sum of a transform grows beyond it. A number is counted in quarters of the least one above 0,
so a number that is not 0 is at least 4. That leaves room for the signs of zeros: 0 is 1, and -0 is -1, which
is too little to count beside any other number, and two zeros of one sign keep it.
"""

from bitsignals.floats import FRACTION_WIDTH, LEAST_POWER, SIGN_BIT, SIZE_BITS, parts, rounded

# A transform's numbers are below this, 2 to the 100 or to the 1000, when it begins; 8192 of them can't add up beyond.
TAME = (0x71800000, 0x7E70000000000000)
# The last places of a factor: no cosine and no sine of 8192 parts of a turn or fewer has a place below.
FACTOR_PLACES = 80
# The quarters of the least number, as places.
ROOM = 2


def is_tame(f, row):
    """Whether all parts of a row of pairs may be spread."""
    tame = TAME[f]
    bits = SIZE_BITS[f]
    for x1, x2 in row:
        if (x1 & bits) >= tame or (x2 & bits) >= tame:
            return False
    return True


class Spread:
    def __init__(self, f):
        self.f = f
        self.places = ROOM - LEAST_POWER[f]
        self.width = FRACTION_WIDTH[f] + 1

    def taken(self, bits):
        size = bits & SIZE_BITS[self.f]
        m, power = parts(self.f, size)
        number = m << (power + self.places) if size > 0 else 1
        return number if bits == size else -number

    def given(self, a):
        sign = SIGN_BIT[self.f] if a < 0 else 0
        size = abs(a)
        return sign if size == 1 else rounded(self.f, sign, size, -self.places)

    def factor(self, bits):
        size = bits & SIZE_BITS[self.f]
        m, power = parts(self.f, size)
        number = m << (power + FACTOR_PLACES)
        return number if bits == size else -number

    def plus(self, a, b):
        return fitted(a + b, self.width, 0)

    def less(self, a, b):
        return fitted(a - b, self.width, 0)

    def times(self, a, c):
        return fitted(a * c, self.width, FACTOR_PLACES)

    def minus(self, a):
        return -a


def fitted(a, width, places):
    """a, which has so many places too many, as the nearest number of the width, of two as near the even one."""
    drop = a.bit_length() - width
    if drop < places + ROOM:
        drop = places + ROOM
    # Twice what is kept, and 1 where the half is reached.
    twice = a >> (drop - 1)
    kept = (twice + 1) >> 1
    if twice & 1 and kept & 1 and (twice << (drop - 1)) == a:
        kept = kept - 1
    if kept == 0:
        return -1 if a < 0 else 1
    return kept << (drop - places)

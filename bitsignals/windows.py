"""Windows: what each number of a row is multiplied by, in doubles."""

from bitsignals.arithmetic import add, multiply, subtract
from bitsignals.conversions import of_double
from bitsignals.turns import DOUBLE, ONE_HALF, cosine


def weight_of_kind_0(n, i):
    return subtract(DOUBLE, ONE_HALF, multiply(DOUBLE, ONE_HALF, cosine(n, i)))


def weight_of_kind_1(n, i):
    return subtract(DOUBLE, 0x3FE147AE147AE148, multiply(DOUBLE, 0x3FDD70A3D70A3D71, cosine(n, i)))


def weight_of_kind_2(n, i):
    first = subtract(DOUBLE, 0x3FDAE147AE147AE1, multiply(DOUBLE, ONE_HALF, cosine(n, i)))
    return add(DOUBLE, first, multiply(DOUBLE, 0x3FB47AE147AE147B, cosine(n, 2 * i)))


WEIGHTS = (weight_of_kind_0, weight_of_kind_1, weight_of_kind_2)


def windowed(f, kind, row):
    weight = WEIGHTS[kind]
    n = len(row)
    return [multiply(f, a, of_double(f, weight(n, i))) for i, a in enumerate(row)]

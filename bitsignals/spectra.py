"""Transforms there and back, whole and halved, of rows of pairs."""

from bitsignals.arithmetic import opposite
from bitsignals.transform import transform

WAYS = 2


def in_pairs(x):
    return list(zip(x[0::2], x[1::2]))


def one_after_another(row):
    flat = []
    for x in row:
        flat.extend(x)
    return flat


def with_opposites(f, row):
    """The row with its second parts' opposites."""
    return [(x1, opposite(f, x2)) for x1, x2 in row]


def way_back(f, row):
    return with_opposites(f, transform(f, with_opposites(f, row)))


def turned(f, way, row):
    return transform(f, row) if way == 0 else way_back(f, row)


def spectrum(f, x):
    """The transform of a row of numbers."""
    return transform(f, [(a, 0) for a in x])


def half_spectrum(f, x):
    return spectrum(f, x)[:len(x) // 2 + 1]


def from_half_spectrum(f, n, half):
    mirrored = [half[n - k] for k in range(n // 2 + 1, n)]
    return first_parts(way_back(f, half + with_opposites(f, mirrored)))


def first_parts(row):
    return [x1 for x1, x2 in row]

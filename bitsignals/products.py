"""Products of rows through their transforms."""

from bitsignals.arithmetic import divide
from bitsignals.conversions import from_whole
from bitsignals.pairs import product, product_with_opposite
from bitsignals.spectra import first_parts, spectrum, way_back

WAYS_AROUND = 2


def product_around(f, op, a, b):
    step = product if op == 0 else product_with_opposite
    row = [step(f, x[0], x[1], y[0], y[1]) for x, y in zip(spectrum(f, a), spectrum(f, b))]
    n = from_whole(f, len(a))
    return [divide(f, first, n) for first in first_parts(way_back(f, row))]


def fits(n, a, b):
    """Whether a and b have numbers, and their product has at most n."""
    return len(a) > 0 and len(b) > 0 and len(a) + len(b) - 1 <= n


def product_of_rows(f, n, a, b):
    return product_around(f, 0, filled(a, n), filled(b, n))[:len(a) + len(b) - 1]


def filled(row, n):
    return row + [0] * (n - len(row))

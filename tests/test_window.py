"""Promise 12: window, with the parts of a turn of 10 and 11."""

import math
import unittest

from bitsignals.desk import window
from tests import hardware, reckoned
from tests.test_conversions import NANS

# Short windows of ones in doubles: the cosines are 1, 0, -1, the root of a half.
WRITTEN = {
    (0, 1): [0.0],
    (0, 2): [0.0, 1.0],
    (0, 4): [0.0, 0.5, 1.0, 0.5],
    (0, 8): [0.0, 0.1464466094067262, 0.5, 0.8535533905932737, 1.0, 0.8535533905932737, 0.5, 0.1464466094067262],
    (1, 1): [0.54 - 0.46],
    (1, 2): [0.54 - 0.46, 1.0],
    (1, 4): [0.54 - 0.46, 0.54, 1.0, 0.54],
    (2, 1): [(0.42 - 0.5) + 0.08],
    (2, 2): [(0.42 - 0.5) + 0.08, (0.42 + 0.5) + 0.08],
    (2, 4): [(0.42 - 0.5) + 0.08, 0.42 - 0.08, (0.42 + 0.5) + 0.08, 0.42 - 0.08],
}

# The weights' bits: kind, n, doubles, singles.
WRITTEN_BITS = (
    (0, 3, [0x0000000000000000, 0x3FE8000000000000, 0x3FE8000000000000], [0x00000000, 0x3F400000, 0x3F400000]),
    (0, 5, [0x0000000000000000, 0x3FD61C8864680B58, 0x3FECF1BBCDCBFA54, 0x3FECF1BBCDCBFA54, 0x3FD61C8864680B58],
     [0x00000000, 0x3EB0E443, 0x3F678DDE, 0x3F678DDE, 0x3EB0E443]),
    (1, 3, [0x3FB47AE147AE147C, 0x3FE8A3D70A3D70A4, 0x3FE8A3D70A3D70A4], [0x3DA3D70A, 0x3F451EB8, 0x3F451EB8]),
    (2, 3, [0xBC70000000000000, 0x3FE428F5C28F5C28, 0x3FE428F5C28F5C28], [0xA3800000, 0x3F2147AE, 0x3F2147AE]),
)

REAL = (
    lambda c, d: 0.5 - 0.5 * c,
    lambda c, d: 0.54 - 0.46 * c,
    lambda c, d: 0.42 - 0.5 * c + 0.08 * d,
)

LENGTHS = (1, 2, 3, 4, 5, 6, 7, 8, 9, 12, 13, 16, 24, 100, 1000)


class WindowTest(unittest.TestCase):
    def test_written_answers(self):
        for (kind, n), weights in WRITTEN.items():
            with self.subTest(kind=kind, n=n):
                self.assertEqual(window(1, kind, [hardware.ONE[1]] * n), [0] + reckoned.bits_of(1, weights))
                # Of singles w is rounded to a single, once.
                self.assertEqual(window(0, kind, [hardware.ONE[0]] * n), [0] + reckoned.bits_of(0, weights))

    def test_written_bits(self):
        for kind, n, doubles, singles in WRITTEN_BITS:
            with self.subTest(kind=kind, n=n):
                self.assertEqual(window(1, kind, [hardware.ONE[1]] * n), [0] + doubles)
                self.assertEqual(window(0, kind, [hardware.ONE[0]] * n), [0] + singles)

    def test_as_reckoned_apart(self):
        for f in (0, 1):
            for kind in range(3):
                for n in LENGTHS:
                    with self.subTest(f=f, kind=kind, n=n):
                        x = [hardware.near_one(f, bits, 8) for bits in hardware.mixed(f, n, n)]
                        self.assertEqual(window(f, kind, x), reckoned.window(f, kind, x))
                        x = hardware.mixed(f, n, n + 1)
                        self.assertEqual(window(f, kind, x), reckoned.window(f, kind, x))

    def test_weights_are_near_the_real_ones(self):
        for kind in range(3):
            for n in LENGTHS:
                got = reckoned.numbers(1, window(1, kind, [hardware.ONE[1]] * n)[1:])
                for i, weight in enumerate(got):
                    c, d = math.cos(2 * math.pi * i / n), math.cos(4 * math.pi * i / n)
                    self.assertAlmostEqual(weight, REAL[kind](c, d), delta=1e-15)

    def test_products_are_rounded_to_even(self):
        # 3/4 of 1 and a place, and of 1 and 3 places: 1.5 and 4.5 of the places below 1.
        self.assertEqual(window(0, 0, [0x3F800000, 0x3F800001, 0x3F800003]), [0, 0x00000000, 0x3F400002, 0x3F400004])

    def test_infinities_nan_zeros_denormals(self):
        for f in (0, 1):
            infinity, sign, nan = hardware.INFINITY[f], hardware.SIGN_BIT[f], hardware.NAN[f]
            self.assertEqual(window(f, 0, [infinity]), [0, nan])  # 0 times infinity
            self.assertEqual(window(f, 0, [infinity, infinity | sign]), [0, nan, infinity | sign])
            self.assertEqual(window(f, 0, [sign, sign, 0, 0]), [0, sign, sign, 0, 0])
            self.assertEqual(window(f, 0, [1, 1, 1, 3 | sign]), [0, 0, 0, 1, 2 | sign])
            # Kind 2 begins a little below 0 or above it: its sign shows.
            self.assertEqual(window(f, 2, [hardware.ONE[f]]), reckoned.window(f, 2, [hardware.ONE[f]]))
            for bits in NANS[f]:
                for kind in range(3):
                    self.assertEqual(window(f, kind, [bits, bits]), [0, nan, nan])

    def test_the_longest_row(self):
        for f in (0, 1):
            x = [hardware.near_one(f, bits, 9) for bits in hardware.mixed(f, 8192, 31)]
            for kind in range(3):
                with self.subTest(f=f, kind=kind):
                    self.assertTrue(window(f, kind, x) == reckoned.window(f, kind, x))
            self.assertTrue(window(f, 0, x[:8191]) == reckoned.window(f, 0, x[:8191]))

    def test_other_lengths_are_refused(self):
        for f in (0, 1):
            for kind in (0, 1, 2, 3, 4294967295):
                for n in (0, 8193, 8194, 16000):
                    with self.subTest(f=f, kind=kind, n=n):
                        self.assertEqual(window(f, kind, [hardware.ONE[f]] * n), [-2])

    def test_other_kinds_are_refused(self):
        for f in (0, 1):
            for kind in (3, 4, 8) + hardware.REFUSED_OPS:
                for n in (1, 4, 8192):
                    with self.subTest(f=f, kind=kind, n=n):
                        self.assertEqual(window(f, kind, [hardware.ONE[f]] * n), [-2])


if __name__ == "__main__":
    unittest.main()

"""Promise 5: split."""

import unittest

from bitsignals.desk import split
from tests import hardware
from tests.test_conversions import NANS


def told(f, row):
    """Every NaN has the same bits where it is told."""
    return [hardware.NAN[f] if bits & ~hardware.SIGN_BIT[f] > hardware.INFINITY[f] else bits for bits in row]


class SplitTest(unittest.TestCase):
    def test_no_pairs_and_one(self):
        for f in (0, 1):
            self.assertEqual(split(f, []), [0])
            self.assertEqual(split(f, [5, 7]), [0, 5, 7])

    def test_the_first_parts_then_the_second_ones(self):
        for f in (0, 1):
            self.assertEqual(split(f, [1, 2, 3, 4]), [0, 1, 3, 2, 4])
            self.assertEqual(split(f, [1, 2, 3, 4, 5, 6]), [0, 1, 3, 5, 2, 4, 6])

    def test_signs_infinities_denormals_stay(self):
        for f in (0, 1):
            sign, infinity = hardware.SIGN_BIT[f], hardware.INFINITY[f]
            self.assertEqual(
                split(f, [sign, infinity, infinity | sign, 0, 1 | sign, infinity - 1]),
                [0, sign, infinity | sign, 1 | sign, infinity, 0, infinity - 1])

    def test_nan_of_any_bits(self):
        for f in (0, 1):
            for bits in NANS[f]:
                self.assertEqual(split(f, [bits, 1, 2, bits]), [0, hardware.NAN[f], 2, 1, hardware.NAN[f]])

    def test_long_rows(self):
        for f in (0, 1):
            x = hardware.edges(f) + hardware.mixed(f, 16000 - len(hardware.edges(f)), 41)
            self.assertTrue(split(f, x) == [0] + told(f, x[0::2]) + told(f, x[1::2]))


if __name__ == "__main__":
    unittest.main()

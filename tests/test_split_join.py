"""Promise 5: split, join."""

import unittest

from bitsignals.desk import join, split
from tests import hardware
from tests.test_conversions import NANS


def told(f, row):
    """Every NaN has the same bits where it is told."""
    return [hardware.NAN[f] if bits & ~hardware.SIGN_BIT[f] > hardware.INFINITY[f] else bits for bits in row]


class SplitTest(unittest.TestCase):
    def test_no_pairs_and_one(self):
        for f in (0, 1):
            self.assertEqual(split(f, []), [0])
            self.assertEqual(split(f, [5, 7]), [0, 5, 7])

    def test_the_first_parts_then_the_second_ones(self):
        for f in (0, 1):
            self.assertEqual(split(f, [1, 2, 3, 4]), [0, 1, 3, 2, 4])
            self.assertEqual(split(f, [1, 2, 3, 4, 5, 6]), [0, 1, 3, 5, 2, 4, 6])

    def test_signs_infinities_denormals_stay(self):
        for f in (0, 1):
            sign, infinity = hardware.SIGN_BIT[f], hardware.INFINITY[f]
            self.assertEqual(
                split(f, [sign, infinity, infinity | sign, 0, 1 | sign, infinity - 1]),
                [0, sign, infinity | sign, 1 | sign, infinity, 0, infinity - 1])

    def test_nan_of_any_bits(self):
        for f in (0, 1):
            for bits in NANS[f]:
                self.assertEqual(split(f, [bits, 1, 2, bits]), [0, hardware.NAN[f], 2, 1, hardware.NAN[f]])

    def test_long_rows(self):
        for f in (0, 1):
            x = hardware.edges(f) + hardware.mixed(f, 16000 - len(hardware.edges(f)), 41)
            self.assertTrue(split(f, x) == [0] + told(f, x[0::2]) + told(f, x[1::2]))


class JoinTest(unittest.TestCase):
    def test_no_numbers_and_one(self):
        for f in (0, 1):
            self.assertEqual(join(f, [], []), [0])
            self.assertEqual(join(f, [5], [7]), [0, 5, 7])

    def test_pairs_of_both_rows(self):
        for f in (0, 1):
            self.assertEqual(join(f, [1, 2, 3], [4, 5, 6]), [0, 1, 4, 2, 5, 3, 6])

    def test_one_row_may_stand_for_both(self):
        row = [1, 2, 3]
        self.assertEqual(join(0, row, row), [0, 1, 1, 2, 2, 3, 3])

    def test_signs_infinities_denormals_stay(self):
        for f in (0, 1):
            sign, infinity = hardware.SIGN_BIT[f], hardware.INFINITY[f]
            self.assertEqual(
                join(f, [sign, infinity | sign, 1 | sign], [infinity, 0, infinity - 1]),
                [0, sign, infinity, infinity | sign, 0, 1 | sign, infinity - 1])

    def test_nan_of_any_bits(self):
        for f in (0, 1):
            for bits in NANS[f]:
                self.assertEqual(join(f, [bits, 1], [2, bits]), [0, hardware.NAN[f], 2, 1, hardware.NAN[f]])

    def test_join_gives_back_what_split_took_apart(self):
        for f in (0, 1):
            for count in (0, 2, 4, 10, 16000):
                x = told(f, hardware.mixed(f, count, 42))
                parts = split(f, x)[1:]
                self.assertTrue(join(f, parts[:count // 2], parts[count // 2:]) == [0] + x)

    def test_the_longest_rows(self):
        for f in (0, 1):
            a, b = hardware.mixed(f, 16000, 43), hardware.mixed(f, 16000, 44)
            answer = join(f, a, b)
            self.assertTrue(answer[1::2] == told(f, a))
            self.assertTrue(answer[2::2] == told(f, b))


if __name__ == "__main__":
    unittest.main()

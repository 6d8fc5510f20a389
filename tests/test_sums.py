"""Promises 7 to 9: dot, peak, away. Written answers first, then answers reckoned apart from the program."""

import math
import unittest

from bitsignals.desk import away, dot, peak
from tests import hardware, reckoned
from tests.test_conversions import NANS

INF = math.inf
NAN = math.nan
# The greatest number, the least, and half a place of 1, by format.
GREATEST = (hardware.to_number(0, 0x7F7FFFFF), hardware.to_number(1, 0x7FEFFFFFFFFFFFFF))
LEAST = (hardware.to_number(0, 1), hardware.to_number(1, 1))
HALF_PLACE = (2.0 ** -24, 2.0 ** -53)


def row(f, *values):
    return [hardware.to_bits(f, value) for value in values]


def dot_of(f, *values):
    """The sum of the values themselves: each is multiplied by 1."""
    return dot(f, row(f, *values), [hardware.ONE[f]] * len(values))


class DotTest(unittest.TestCase):
    def test_few_products(self):
        for f in (0, 1):
            for count in range(10):
                a = [float(i + 1) for i in range(count)]
                b = [float(2 - i) for i in range(count)]
                want = float(sum(x * y for x, y in zip(a, b)))
                with self.subTest(f=f, count=count):
                    self.assertEqual(dot(f, row(f, *a), row(f, *b)), [0] + row(f, want))

    def test_no_products(self):
        for f in (0, 1):
            self.assertEqual(dot(f, [], []), [0, 0])

    def test_groups_of_four_singles(self):
        e = HALF_PLACE[0]
        for values, want in (
            ((1.0, e, e, e), 0x3F800001),  # (1 + e) is 1, (e + e) is a place
            ((e, e, 1.0, e), 0x3F800001),
            ((e, 1.0, e, e), 0x3F800001),
            ((1.0, e, e), 0x3F800000),  # (1 + e) is 1, (e + 0) is half a place
            ((e, e, 1.0), 0x3F800001),
            ((1.0, e), 0x3F800000),
            ((1.0, 0.0, 0.0, 0.0, e, e, e, e), 0x3F800002),  # the second group comes as one
            ((1.0, 0.0, 0.0, e, e), 0x3F800000),  # e alone in each group
            ((1.0, 0.0, 0.0, e, e, 0.0, 0.0, 0.0, e), 0x3F800000),
            ((e, e, e, e, 1.0), 0x3F800002),
            ((e, e, e, e, 1.0, e, e, e), 0x3F800003),  # 4 e + (1 + 2 e)
        ):
            with self.subTest(values=values):
                self.assertEqual(dot_of(0, *values), [0, want])

    def test_groups_of_two_doubles(self):
        e = HALF_PLACE[1]
        for values, want in (
            ((1.0, e, e, e), 0x3FF0000000000001),
            ((1.0, 0.0, e, e), 0x3FF0000000000001),
            ((1.0, e, e), 0x3FF0000000000000),
            ((1.0, 0.0, e, 0.0, 0.0, e), 0x3FF0000000000000),
            ((1.0, e, e, 0.0, e, 0.0), 0x3FF0000000000000),
            ((e, 0.0, e, 0.0, 1.0, 0.0), 0x3FF0000000000001),
            ((e, e, 1.0), 0x3FF0000000000001),
            ((0.0, e, e, 1.0), 0x3FF0000000000000),
            ((-1.0, e, 1.0, 0.0, e, 0.0), 0x3CB0000000000000),  # (-1 + e) is exact: below 1 the places are narrower
            ((0.0, 0.0, 1.0, 0.0, e, 0.0, e, 0.0), 0x3FF0000000000000),  # of four: the last two would be a place
        ):
            with self.subTest(values=values):
                self.assertEqual(dot_of(1, *values), [0, want])

    def test_each_product_is_rounded_by_itself(self):
        # (1 + u) (1 + u) - (1 + 2 u): the square is rounded first, so nothing is left.
        self.assertEqual(dot(0, [0x3F800001, 0xBF800002], [0x3F800001, 0x3F800000]), [0, 0])
        self.assertEqual(
            dot(1, [0x3FF0000000000001, 0xBFF0000000000002], [0x3FF0000000000001, 0x3FF0000000000000]), [0, 0])

    def test_signs_of_zeros(self):
        for f in (0, 1):
            for count in range(1, 10):
                with self.subTest(f=f, count=count):
                    # The sum goes from 0 on, and a place without a product is 0.
                    self.assertEqual(dot_of(f, *[-0.0] * count), [0, 0])
            self.assertEqual(dot_of(f, 1.0, -1.0), [0, 0])
            self.assertEqual(dot(f, row(f, -LEAST[f]), row(f, 0.25)), [0, 0])

    def test_infinities_and_nan(self):
        for f in (0, 1):
            great = GREATEST[f]
            for a, b, want in (
                ((great, 1.0), (2.0, 1.0), INF),  # one product grows beyond the greatest number
                ((-great, 1.0), (2.0, 1.0), -INF),
                ((great, -great), (2.0, 2.0), NAN),
                ((great, 1.0, -great), (2.0, 1.0, 2.0), NAN),
                ((great, great), (1.0, 1.0), INF),  # their sum does
                ((great, great, -great, -great), (1.0,) * 4, NAN),
                ((great, -great, great, -great), (1.0,) * 4, 0.0),
                ((INF, 1.0), (1.0, 1.0), INF),
                ((1.0, 1.0, 1.0, 1.0, -INF), (1.0,) * 5, -INF),
                ((INF, 1.0), (0.0, 1.0), NAN),
                ((INF, -INF), (1.0, 1.0), NAN),
                ((INF, INF), (1.0, 1.0), INF),
                ((NAN,), (0.0,), NAN),
                ((1.0, 2.0, 3.0, 4.0, 5.0), (1.0, 1.0, 1.0, 1.0, NAN), NAN),
            ):
                with self.subTest(f=f, a=a, b=b):
                    self.assertEqual(dot(f, row(f, *a), row(f, *b)), [0] + row(f, want))
            for bits in NANS[f]:
                self.assertEqual(dot(f, [bits], [hardware.ONE[f]]), [0, hardware.NAN[f]])
                self.assertEqual(dot(f, [0, 0, 0], [0, 0, bits]), [0, hardware.NAN[f]])

    def test_denormals_count(self):
        for f in (0, 1):
            self.assertEqual(dot_of(f, *[LEAST[f]] * 7), [0, 7])
            self.assertEqual(dot_of(f, *[-LEAST[f]] * 3), [0, 3 | hardware.SIGN_BIT[f]])

    def test_as_reckoned_apart(self):
        for f in (0, 1):
            for count in (0, 1, 2, 3, 4, 5, 6, 7, 8, 9, 31, 32, 33, 1000):
                a, b = hardware.ordinary(f, count, 21), hardware.ordinary(f, count, 22)
                with self.subTest(f=f, count=count):
                    self.assertEqual(dot(f, a, b), reckoned.dot(f, a, b))
                    a, b = hardware.mixed(f, count, 23), hardware.mixed(f, count, 24)
                    self.assertEqual(dot(f, a, b), reckoned.dot(f, a, b))

    def test_the_longest_rows(self):
        for f in (0, 1):
            for count in (15999, 16000):
                a, b = hardware.ordinary(f, count, 25), hardware.ordinary(f, count, 26)
                with self.subTest(f=f, count=count):
                    self.assertEqual(dot(f, a, b), reckoned.dot(f, a, b))


class PeakTest(unittest.TestCase):
    def test_place_and_size(self):
        for f in (0, 1):
            for values, place, size in (
                ((1.0,), 0, 1.0),
                ((1.0, 2.0, 3.0), 2, 3.0),
                ((3.0, 2.0, 1.0), 0, 3.0),
                ((1.0, -3.0, 2.0), 1, 3.0),
                ((-1.0, -2.0, -0.5), 1, 2.0),
                ((2.0, -2.0, 2.0), 0, 2.0),  # the first of equal sizes
                ((1.0, -2.0, 2.0), 1, 2.0),
                ((1.0, NAN, 0.5), 0, 1.0),
                ((NAN, NAN, -0.5, NAN, 0.5), 2, 0.5),
                ((1.0, INF, NAN, -INF), 1, INF),
                ((GREATEST[f], -INF, INF), 1, INF),
                ((-0.0, 0.0, LEAST[f], 0.0), 2, LEAST[f]),
                ((0.0, LEAST[f], -2 * LEAST[f]), 2, 2 * LEAST[f]),
                ((-LEAST[f],), 0, LEAST[f]),
                ((), 0, 0.0),
                ((0.0,), 0, 0.0),
                ((-0.0,), 0, 0.0),
                ((-0.0, 0.0, -0.0), 0, 0.0),
                ((NAN, NAN), 0, 0.0),
                ((NAN, 0.0, -0.0), 0, 0.0),
            ):
                with self.subTest(f=f, values=values):
                    self.assertEqual(peak(f, row(f, *values)), [place] + row(f, size))

    def test_nan_of_any_bits(self):
        for f in (0, 1):
            self.assertEqual(peak(f, list(NANS[f])), [0, 0])
            for bits in NANS[f]:
                self.assertEqual(peak(f, [bits, 1, bits]), [1, 1])
                self.assertEqual(peak(f, [bits, hardware.INFINITY[f]]), [1, hardware.INFINITY[f]])

    def test_long_rows(self):
        for f in (0, 1):
            x = hardware.ordinary(f, 16000, 27)
            sizes = [abs(number) for number in reckoned.numbers(f, x)]
            place = sizes.index(max(sizes))
            self.assertEqual(peak(f, x), [place, hardware.to_bits(f, sizes[place])])
            self.assertEqual(peak(f, [0] * 15999 + [1]), [15999, 1])


class AwayTest(unittest.TestCase):
    def test_written_answers(self):
        for f in (0, 1):
            for gain, values, want in (
                (2.0, (1.0, -1.5, 0.0, -0.0), (2.0, -3.0, 0.0, -0.0)),
                (-0.5, (1.0, -1.5, 0.0, -0.0), (-0.5, 0.75, -0.0, 0.0)),
                (0.0, (1.0, -1.0, 0.0, -0.0, INF, -INF, NAN), (0.0, -0.0, 0.0, -0.0, NAN, NAN, NAN)),
                (-0.0, (1.0, -1.0, 0.0, -0.0), (-0.0, 0.0, -0.0, 0.0)),
                (INF, (1.0, -1.0, LEAST[f], INF, -INF, 0.0, NAN), (INF, -INF, INF, INF, -INF, NAN, NAN)),
                (-INF, (1.0, -1.0, INF), (-INF, INF, -INF)),
                (NAN, (1.0, 0.0, INF, NAN), (NAN, NAN, NAN, NAN)),
                (LEAST[f], (1.0, -3.0, 0.5, 0.75, -0.5), (LEAST[f], -3 * LEAST[f], 0.0, LEAST[f], -0.0)),
                (0.5, (LEAST[f], 3 * LEAST[f], -LEAST[f]), (0.0, 2 * LEAST[f], -0.0)),
                (2.0, (GREATEST[f], -GREATEST[f], GREATEST[f] / 2), (INF, -INF, GREATEST[f])),
                (GREATEST[f], (1.0, 2.0, -2.0, 0.5), (GREATEST[f], INF, -INF, GREATEST[f] / 2)),
            ):
                with self.subTest(f=f, gain=gain):
                    self.assertEqual(away(f, hardware.to_bits(f, gain), row(f, *values)), [0] + row(f, *want))

    def test_rounded_to_even(self):
        self.assertEqual(away(0, 0x3FC00000, [0x3F800001, 0x3F800003]), [0, 0x3FC00002, 0x3FC00004])
        self.assertEqual(
            away(1, 0x3FF8000000000000, [0x3FF0000000000001, 0x3FF0000000000003]),
            [0, 0x3FF8000000000002, 0x3FF8000000000004])

    def test_nan_of_any_bits(self):
        for f in (0, 1):
            for bits in NANS[f]:
                self.assertEqual(away(f, bits, [hardware.ONE[f], 0]), [0, hardware.NAN[f], hardware.NAN[f]])
                self.assertEqual(away(f, hardware.ONE[f], [bits]), [0, hardware.NAN[f]])

    def test_rows_of_no_numbers_and_long_ones(self):
        for f in (0, 1):
            self.assertEqual(away(f, hardware.ONE[f], []), [0])
            x = hardware.mixed(f, 16000, 28)
            for gain in hardware.ordinary(f, 2, 29) + [hardware.TOP[f]]:
                want = hardware.each_row(f, 2, x, [gain] * len(x))
                self.assertTrue(away(f, gain, x) == want)


if __name__ == "__main__":
    unittest.main()

"""Promise 18: half, unhalf. Written answers first, then answers reckoned apart from the program."""

import math
import unittest

from bitsignals.desk import half, turn, unhalf
from tests import hardware, reckoned
from tests.test_conversions import NANS

LENGTHS = (1, 2, 3, 4, 5, 6, 7, 8, 9, 10, 11, 12, 15, 16, 20, 21, 24, 25, 36, 60, 64, 105)


def row(f, *values):
    return [hardware.to_bits(f, value) for value in values]


class HalfTest(unittest.TestCase):
    def test_written_answers(self):
        for f in (0, 1):
            for x, want in (
                ((5.0,), (5.0, 0.0)),
                ((-0.0,), (-0.0, 0.0)),
                ((3.0, 4.0), (7.0, 0.0, -1.0, 0.0)),
                ((1.0, 2.0, 3.0, 4.0), (10.0, 0.0, -2.0, 2.0, -2.0, 0.0)),
                ((1.0, 1.0, 1.0, 1.0), (4.0, 0.0, 0.0, 0.0, 0.0, 0.0)),
                ((math.inf,), (math.inf, 0.0)),
                ((1.0, math.nan), (math.nan, 0.0, math.nan, 0.0)),
            ):
                with self.subTest(f=f, x=x):
                    self.assertEqual(half(f, row(f, *x)), [0] + row(f, *want))

    def test_one_nan_of_any_bits(self):
        for f in (0, 1):
            for bits in NANS[f]:
                self.assertEqual(half(f, [bits]), [0, hardware.NAN[f], 0])

    def test_as_many_pairs_as_half_and_one(self):
        for f in (0, 1):
            for n in LENGTHS:
                self.assertEqual(len(half(f, hardware.ordinary(f, n, n))), 1 + 2 * (n // 2 + 1))

    def test_every_sort_of_row(self):
        for f in (0, 1):
            for n in LENGTHS:
                for sort in hardware.SORTS:
                    x = sort(f, n, n + 7)
                    with self.subTest(f=f, n=n, sort=sort.__name__):
                        self.assertEqual(half(f, x), reckoned.half(f, x))

    def test_it_is_the_transform_of_pairs(self):
        for f in (0, 1):
            for n in LENGTHS:
                x = hardware.ordinary(f, n, n)
                pairs = [bits for number in x for bits in (number, 0)]
                self.assertEqual(half(f, x), turn(f, 0, pairs)[:1 + 2 * (n // 2 + 1)])

    def test_long_rows(self):
        for f, n in ((0, 8192), (1, 8192), (0, 6561), (1, 7007), (1, 257)):
            x = hardware.ordinary(f, n, n)
            with self.subTest(f=f, n=n):
                self.assertTrue(half(f, x) == reckoned.half(f, x))


class UnhalfTest(unittest.TestCase):
    def test_written_answers(self):
        for f in (0, 1):
            for n, x, want in (
                (1, (5.0, 7.0), (5.0,)),
                (1, (-0.0, 7.0), (-0.0,)),
                (2, (7.0, 0.0, -1.0, 0.0), (6.0, 8.0)),
                # The first and the middle one are x's own, second parts and all: the first parts don't show them here.
                (2, (7.0, 3.0, -1.0, 2.0), (6.0, 8.0)),
                (4, (10.0, 0.0, -2.0, 2.0, -2.0, 0.0), (4.0, 8.0, 12.0, 16.0)),
                (4, (0.0, 0.0, 1.0, 0.0, 0.0, 0.0), (2.0, 0.0, -2.0, 0.0)),
                (4, (0.0, 0.0, 0.0, 1.0, 0.0, 0.0), (0.0, -2.0, 0.0, 2.0)),
            ):
                with self.subTest(f=f, n=n, x=x):
                    answer = unhalf(f, n, row(f, *x))
                    self.assertEqual(answer[0], 0)
                    self.assertEqual(reckoned.numbers(f, answer[1:]), list(want))

    def test_second_parts_of_the_first_and_the_middle(self):
        # With other second parts there an infinity meets itself, or doesn't.
        for f in (0, 1):
            for n in (2, 3, 4, 5, 6, 8, 12):
                x = hardware.ordinary(f, 2 * (n // 2 + 1), n)
                for place in (1, len(x) - 1):
                    for value in (hardware.INFINITY[f], hardware.TOP[f], 1, hardware.ONE[f] | hardware.SIGN_BIT[f]):
                        changed = x[:place] + [value] + x[place + 1:]
                        with self.subTest(f=f, n=n, place=place, value=hex(value)):
                            self.assertEqual(unhalf(f, n, changed), reckoned.unhalf(f, n, changed))

    def test_one_nan_of_any_bits(self):
        for f in (0, 1):
            for bits in NANS[f]:
                self.assertEqual(unhalf(f, 1, [bits, 0]), [0, hardware.NAN[f]])
                self.assertEqual(unhalf(f, 1, [5, bits]), [0, 5])
                self.assertEqual(unhalf(f, 2, [5, 0, 0, bits]), [0, 5, 5])

    def test_every_sort_of_row(self):
        for f in (0, 1):
            for n in LENGTHS:
                for sort in hardware.SORTS:
                    x = sort(f, 2 * (n // 2 + 1), n + 9)
                    with self.subTest(f=f, n=n, sort=sort.__name__):
                        self.assertEqual(unhalf(f, n, x), reckoned.unhalf(f, n, x))

    def test_there_and_back_is_n_times_as_much_nearly(self):
        for f, close in ((0, 1e-4), (1, 1e-13)):
            for n in LENGTHS:
                x = hardware.ordinary(f, n, n)
                back = unhalf(f, n, half(f, x)[1:])
                self.assertEqual(len(back), 1 + n)
                largest = max(abs(number) for number in reckoned.numbers(f, x))
                for before, after in zip(reckoned.numbers(f, x), reckoned.numbers(f, back[1:])):
                    self.assertAlmostEqual(after, n * before, delta=n * largest * close)

    def test_long_rows(self):
        for f, n in ((0, 8192), (1, 8192), (0, 6561), (1, 7007), (1, 257)):
            x = hardware.ordinary(f, 2 * (n // 2 + 1), n)
            with self.subTest(f=f, n=n):
                self.assertTrue(unhalf(f, n, x) == reckoned.unhalf(f, n, x))


if __name__ == "__main__":
    unittest.main()

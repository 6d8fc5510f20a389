"""Promises 19 and 20: around, conv. Written answers first, then answers reckoned apart from the program."""

import math
import unittest

from bitsignals.desk import around, conv
from tests import hardware, reckoned
from tests.test_conversions import NANS

INF = math.inf
NAN = math.nan
LENGTHS = (1, 2, 3, 4, 5, 6, 7, 8, 9, 10, 12, 15, 16, 20, 21, 24, 27, 32, 60)


def row(f, *values):
    return [hardware.to_bits(f, value) for value in values]


def circular(a, b, op):
    """What comes out, nearly: sums of products, b running against a (op 0) or along with it."""
    n = len(a)
    if op == 0:
        return [sum(a[i] * b[(k - i) % n] for i in range(n)) for k in range(n)]
    return [sum(a[(i + k) % n] * b[i] for i in range(n)) for k in range(n)]


class AroundTest(unittest.TestCase):
    def test_written_answers(self):
        for f in (0, 1):
            for op, a, b, want in (
                (0, (3.0,), (5.0,), (15.0,)),
                (1, (3.0,), (-5.0,), (-15.0,)),
                (0, (1.0, 2.0), (3.0, 4.0), (11.0, 10.0)),
                (1, (1.0, 2.0), (3.0, 4.0), (11.0, 10.0)),
                (0, (1.0, 2.0, 3.0, 4.0), (1.0, 0.0, 0.0, 0.0), (1.0, 2.0, 3.0, 4.0)),
                (0, (1.0, 2.0, 3.0, 4.0), (0.0, 1.0, 0.0, 0.0), (4.0, 1.0, 2.0, 3.0)),
                (1, (1.0, 2.0, 3.0, 4.0), (0.0, 1.0, 0.0, 0.0), (2.0, 3.0, 4.0, 1.0)),
                (0, (1.0, 2.0, 3.0, 4.0), (5.0, 6.0, 7.0, 8.0), (66.0, 68.0, 66.0, 60.0)),
                (1, (1.0, 2.0, 3.0, 4.0), (5.0, 6.0, 7.0, 8.0), (70.0, 64.0, 62.0, 64.0)),
                (0, (INF,), (1.0,), (INF,)),  # the second part, infinity times 0, is NaN; the first is not
                (0, (INF,), (0.0,), (NAN,)),
                (0, (NAN, 1.0), (1.0, 1.0), (NAN, NAN)),
            ):
                with self.subTest(f=f, op=op, a=a, b=b):
                    answer = around(f, op, row(f, *a), row(f, *b))
                    self.assertEqual(answer, [0] + row(f, *want))

    def test_each_is_divided_by_n(self):
        # 3 times 1/3 nearly: the quotient is rounded by itself.
        for f in (0, 1):
            a, b = row(f, 1.0, 1.0, 1.0), row(f, 1.0, 0.0, 0.0)
            self.assertEqual(around(f, 0, a, b), reckoned.around(f, 0, a, b))
            a = [hardware.INFINITY[f] - 1]
            self.assertEqual(around(f, 0, a, [hardware.ONE[f]]), [0] + a)

    def test_every_sort_of_row(self):
        for f in (0, 1):
            for n in LENGTHS:
                for sort in hardware.SORTS:
                    a, b = sort(f, n, n + 11), sort(f, n, n + 12)
                    for op in (0, 1):
                        with self.subTest(f=f, n=n, op=op, sort=sort.__name__):
                            self.assertEqual(around(f, op, a, b), reckoned.around(f, op, a, b))

    def test_one_endless_number_in_a_row(self):
        for f in (0, 1):
            for n in (1, 2, 3, 4, 5, 8, 12):
                for bits in (hardware.INFINITY[f], hardware.INFINITY[f] | hardware.SIGN_BIT[f]) + NANS[f][:3]:
                    a, b = hardware.ordinary(f, n, n), hardware.ordinary(f, n, n + 1)
                    a[n // 2] = bits
                    for op in (0, 1):
                        self.assertEqual(around(f, op, a, b), reckoned.around(f, op, a, b))
                        self.assertEqual(around(f, op, b, a), reckoned.around(f, op, b, a))

    def test_near_the_sums_of_products(self):
        for f, close in ((0, 1e-5), (1, 1e-14)):
            for n in LENGTHS:
                a, b = hardware.ordinary(f, n, n), hardware.ordinary(f, n, n + 1)
                x, y = reckoned.numbers(f, a), reckoned.numbers(f, b)
                limit = close * sum(abs(value) for value in x) * sum(abs(value) for value in y)
                for op in (0, 1):
                    answer = reckoned.numbers(f, around(f, op, a, b)[1:])
                    for got, want in zip(answer, circular(x, y, op), strict=True):
                        self.assertAlmostEqual(got, want, delta=limit)

    def test_long_rows(self):
        for f, op, n in ((0, 0, 8192), (1, 1, 8192), (1, 0, 6561), (0, 1, 6000), (1, 0, 199)):
            a, b = hardware.ordinary(f, n, n), hardware.ordinary(f, n, n + 1)
            with self.subTest(f=f, op=op, n=n):
                self.assertTrue(around(f, op, a, b) == reckoned.around(f, op, a, b))

    def test_other_ops_are_refused(self):
        for f in (0, 1):
            for op in (2, 3, 4, 8) + hardware.REFUSED_OPS:
                for n in (1, 4, 8192):
                    with self.subTest(f=f, op=op, n=n):
                        self.assertEqual(around(f, op, [hardware.ONE[f]] * n, [0] * n), [-2])


class ConvTest(unittest.TestCase):
    def test_written_answers(self):
        for f in (0, 1):
            for n, a, b, want in (
                (1, (3.0,), (5.0,), (15.0,)),
                (4, (3.0,), (5.0,), (15.0,)),
                (4, (1.0, 2.0), (3.0, 4.0), (3.0, 10.0, 8.0)),
                (4, (1.0, 2.0, 3.0), (1.0, 1.0), (1.0, 3.0, 5.0, 3.0)),
                (4, (1.0, 2.0, 3.0, 4.0), (2.0,), (2.0, 4.0, 6.0, 8.0)),
            ):
                with self.subTest(f=f, n=n, a=a, b=b):
                    self.assertEqual(conv(f, n, row(f, *a), row(f, *b)), [0] + row(f, *want))

    def test_no_numbers_are_refused(self):
        for f in (0, 1):
            some = [hardware.ONE[f]] * 3
            for n in (1, 2, 3, 8192):
                for a, b in (([], []), ([], some[:1]), (some[:1], []), ([], some), (some, [])):
                    with self.subTest(f=f, n=n, a=a, b=b):
                        self.assertEqual(conv(f, n, a, b), [-2])

    def test_just_as_many_as_n_and_one_more(self):
        for f in (0, 1):
            for n in (1, 2, 3, 4, 5, 8, 9, 12, 16, 21):
                for la in range(1, n + 1):
                    a = hardware.ordinary(f, la, n + la)
                    for lb in (n - la + 1, n - la, n - la + 2):
                        b = hardware.ordinary(f, lb, n + lb)
                        with self.subTest(f=f, n=n, la=la, lb=lb):
                            answer = conv(f, n, a, b)
                            self.assertEqual(answer, reckoned.conv(f, n, a, b))
                            self.assertEqual(len(answer), la + lb if 0 < lb <= n - la + 1 else 1)

    def test_long_rows_beyond_n_are_refused(self):
        for f in (0, 1):
            one = [hardware.ONE[f]]
            for n, la, lb in ((8192, 8193, 1), (8192, 1, 8193), (8192, 8192, 2), (8192, 16000, 16000), (8192, 16000, 1),
                              (1, 16000, 16000), (1, 2, 1), (4096, 4097, 1), (8191, 4096, 4097), (8192, 0, 16000)):
                with self.subTest(f=f, n=n, la=la, lb=lb):
                    self.assertEqual(conv(f, n, one * la, one * lb), [-2])

    def test_n_counts_not_only_the_rows(self):
        # The same rows through transforms of other lengths: other roundings.
        for f in (0, 1):
            a, b = hardware.ordinary(f, 5, 1), hardware.ordinary(f, 4, 2)
            answers = {n: conv(f, n, a, b) for n in (8, 9, 10, 11, 12, 15, 16, 31, 64)}
            for n, answer in answers.items():
                self.assertEqual(answer, reckoned.conv(f, n, a, b))
            self.assertGreater(len({tuple(answer) for answer in answers.values()}), 1)

    def test_every_sort_of_row(self):
        for f in (0, 1):
            for n in (2, 3, 4, 6, 8, 9, 15, 16, 30):
                for sort in hardware.SORTS:
                    a, b = sort(f, n // 2, n), sort(f, n - n // 2, n + 1)
                    with self.subTest(f=f, n=n, sort=sort.__name__):
                        self.assertEqual(conv(f, n, a, b), reckoned.conv(f, n, a, b))

    def test_near_the_sums_of_products(self):
        for f, close in ((0, 1e-5), (1, 1e-14)):
            a, b = hardware.ordinary(f, 20, 3), hardware.ordinary(f, 13, 4)
            x, y = reckoned.numbers(f, a), reckoned.numbers(f, b)
            limit = close * sum(abs(value) for value in x) * sum(abs(value) for value in y)
            for n in (32, 33, 45, 64):
                answer = reckoned.numbers(f, conv(f, n, a, b)[1:])
                want = [sum(x[i] * y[k - i] for i in range(20) if 0 <= k - i < 13) for k in range(32)]
                for got, wanted in zip(answer, want, strict=True):
                    self.assertAlmostEqual(got, wanted, delta=limit)

    def test_long_rows(self):
        for f, n, la, lb in ((0, 8192, 4096, 4097), (1, 8192, 8192, 1), (1, 8000, 100, 7000)):
            a, b = hardware.ordinary(f, la, n), hardware.ordinary(f, lb, n + 1)
            with self.subTest(f=f, n=n, la=la, lb=lb):
                self.assertTrue(conv(f, n, a, b) == reckoned.conv(f, n, a, b))


if __name__ == "__main__":
    unittest.main()

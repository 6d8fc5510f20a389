"""Promises 15 to 17: turn. Written answers first, then answers reckoned apart from the program."""

import cmath
import math
import unittest

from bitsignals.desk import tone, turn
from tests import hardware, reckoned
from tests.test_conversions import NANS

INF = math.inf
NAN = math.nan
LENGTHS = (1, 2, 3, 4, 5, 6, 7, 8, 9, 10, 11, 12, 13, 14, 15, 16, 18, 20, 21, 22, 24, 25, 27, 28, 30, 32, 36, 48, 49, 60,
           64, 105)


def row(f, *values):
    return [hardware.to_bits(f, value) for value in values]


class WrittenTurnTest(unittest.TestCase):
    def assert_turn(self, way, x, want):
        for f in (0, 1):
            with self.subTest(f=f, way=way, x=x):
                self.assertEqual(turn(f, way, row(f, *x)), [0] + row(f, *want))

    def test_one_number_is_its_transform(self):
        for x in ((3.0, -4.0), (0.0, -0.0), (-0.0, 0.0), (-0.0, -0.0), (INF, -INF), (NAN, 1.0), (1.0, NAN)):
            for way in (0, 1):
                self.assert_turn(way, x, x)

    def test_one_nan_of_any_bits(self):
        for f in (0, 1):
            for bits in NANS[f]:
                for way in (0, 1):
                    self.assertEqual(turn(f, way, [bits, 5]), [0, hardware.NAN[f], 5])
                    self.assertEqual(turn(f, way, [5, bits]), [0, 5, hardware.NAN[f]])

    def test_two(self):
        self.assert_turn(0, (1.0, 2.0, 3.0, 5.0), (4.0, 7.0, -2.0, -3.0))
        self.assert_turn(1, (1.0, 2.0, 3.0, 5.0), (4.0, 7.0, -2.0, -3.0))

    def test_four(self):
        x = (1.0, 0.0, 2.0, 0.0, 3.0, 0.0, 4.0, 0.0)
        self.assert_turn(0, x, (10.0, 0.0, -2.0, 2.0, -2.0, 0.0, -2.0, -2.0))
        # The second parts' opposites are taken before and behind: a 0 behind becomes -0.
        self.assert_turn(1, x, (10.0, 0.0, -2.0, -2.0, -2.0, -0.0, -2.0, 2.0))
        self.assert_turn(0, (0.0, 0.0, 1.0, 0.0, 0.0, 0.0, 0.0, 0.0), (1.0, 0.0, 0.0, -1.0, -1.0, 0.0, 0.0, 1.0))
        self.assert_turn(0, (0.0, 1.0, 2.0, 3.0, 5.0, 8.0, 13.0, 21.0), (20.0, 33.0, -23.0, 4.0, -10.0, -15.0, 13.0, -18.0))

    def test_a_number_alone_gives_all_alike(self):
        for f in (0, 1):
            for n in LENGTHS:
                x = row(f, 1.0, 0.0) + [0] * (2 * n - 2)
                answer = reckoned.numbers(f, turn(f, 0, x)[1:])
                self.assertEqual(answer, [1.0, 0.0] * n)

    def test_eight(self):
        # One number in the next place: the parts of a turn, back.
        for f in (0, 1):
            x = [0] * 16
            x[2] = hardware.ONE[f]
            wanted = reckoned.numbers(f, tone(f, 8, 7)[1:])
            self.assertEqual(reckoned.numbers(f, turn(f, 0, x)[1:]), wanted)

    def test_three_step_by_step(self):
        # c and s of a third; each product, each sum by itself, from Y0 on.
        for f in (0, 1):
            def fit(number):
                return reckoned.fit(f, number)

            c, s = fit(-0.49999999999999994), fit(0.8660254037844387)
            x = [fit(number) for number in (0.1, 0.2, 0.3, 0.4, 0.5, 0.6)]
            first = fit(fit(x[0] + fit(fit(c * x[2]) + fit(s * x[3]))) + fit(fit(c * x[4]) + fit(-s * x[5])))
            second = fit(fit(x[1] + fit(fit(c * x[3]) - fit(s * x[2]))) + fit(fit(c * x[5]) - fit(-s * x[4])))
            answer = turn(f, 0, row(f, *x))
            self.assertEqual(answer[3:5], row(f, first, second))
            self.assertEqual(answer[1], hardware.to_bits(f, fit(fit(x[0] + x[2]) + x[4])))

    def test_infinities(self):
        self.assert_turn(0, (INF, 0.0, 1.0, 0.0), (INF, 0.0, INF, 0.0))
        self.assert_turn(0, (1.0, 0.0, INF, 0.0), (INF, 0.0, -INF, 0.0))
        self.assert_turn(0, (INF, 0.0, INF, 0.0), (INF, 0.0, NAN, 0.0))
        # A quarter needs no product: no 0 meets the infinity.
        self.assert_turn(0, (0.0, 0.0, INF, 0.0, 0.0, 0.0, 0.0, 0.0), (INF, 0.0, 0.0, -INF, -INF, 0.0, 0.0, INF))
        # A third does: infinity times c and s.
        self.assert_turn(0, (0.0, 0.0, INF, 1.0, 0.0, 0.0), (INF, 1.0, -INF, -INF, -INF, INF))


class ReckonedTurnTest(unittest.TestCase):
    def assert_reckoned(self, f, x):
        for way in (0, 1):
            self.assertTrue(turn(f, way, x) == reckoned.turn(f, way, x), (f, way, x[:8]))

    def test_every_sort_of_row(self):
        for f in (0, 1):
            for n in LENGTHS:
                for sort in hardware.SORTS:
                    for seed in (n, n + 1000):
                        with self.subTest(f=f, n=n, sort=sort.__name__):
                            self.assert_reckoned(f, sort(f, 2 * n, seed))

    def test_numbers_of_all_sizes_beside_one_another(self):
        for f in (0, 1):
            for n in (3, 4, 5, 6, 8, 12, 15, 16, 35, 64):
                x = [bits if bits & hardware.INFINITY[f] != hardware.INFINITY[f] else 1
                     for bits in hardware.mixed(f, 8 * n, n)[0::4]]
                with self.subTest(f=f, n=n):
                    self.assert_reckoned(f, x)

    def test_sums_that_just_grow_beyond_the_greatest(self):
        for f in (0, 1):
            fraction = (23, 52)[f]
            for n in (2, 3, 4, 7, 8, 12, 64):
                for powers in range(1, 9):
                    bits = hardware.INFINITY[f] - (powers << fraction)
                    with self.subTest(f=f, n=n, powers=powers):
                        self.assert_reckoned(f, [bits] * (2 * n))
                        self.assert_reckoned(f, [bits, bits | hardware.SIGN_BIT[f]] * n)

    def test_one_number_among_ordinary_ones(self):
        # Of each size from the least to the greatest.
        for f in (0, 1):
            fraction = (23, 52)[f]
            for n in (5, 6, 8):
                for field in list(range(0, (256, 2048)[f], (17, 89)[f])) + [(227, 2023)[f], (226, 2022)[f]]:
                    x = hardware.ordinary(f, 2 * n, field)
                    x[3] = (field << fraction) + 12345
                    with self.subTest(f=f, n=n, field=field):
                        self.assert_reckoned(f, x)

    def test_long_rows(self):
        for f, way, n in ((0, 0, 8192), (1, 1, 8192), (1, 0, 4096), (1, 0, 6561), (0, 1, 8190), (1, 0, 5005)):
            x = hardware.ordinary(f, 2 * n, n)
            with self.subTest(f=f, way=way, n=n):
                self.assertTrue(turn(f, way, x) == reckoned.turn(f, way, x))

    def test_great_primes(self):
        for f, way, n in ((0, 0, 509), (1, 0, 613), (1, 1, 251), (0, 1, 514), (1, 0, 1028)):
            x = hardware.ordinary(f, 2 * n, n)
            with self.subTest(f=f, way=way, n=n):
                self.assertTrue(turn(f, way, x) == reckoned.turn(f, way, x))

    def test_long_rows_with_infinities(self):
        for f, n in ((0, 1024), (1, 1000), (0, 127), (1, 243)):
            with self.subTest(f=f, n=n):
                self.assert_reckoned(f, hardware.rarely_endless(f, 2 * n, n))

    def test_near_the_real_transform(self):
        for n in LENGTHS:
            x = hardware.ordinary(1, 2 * n, n)
            values = [complex(first, second) for first, second in reckoned.pairs(1, x)]
            limit = 1e-14 * sum(abs(value) for value in values)
            for way, sign in ((0, -1), (1, 1)):
                answer = reckoned.pairs(1, turn(1, way, x)[1:])
                for j in range(n):
                    want = sum(
                        value * cmath.exp(sign * 2j * math.pi * (i * j % n) / n) for i, value in enumerate(values))
                    self.assertLess(abs(complex(*answer[j]) - want), limit)

    def test_there_and_back_is_n_times_as_much_nearly(self):
        for f, close in ((0, 1e-4), (1, 1e-13)):
            for n in (1, 2, 3, 8, 15, 100):
                x = hardware.ordinary(f, 2 * n, n)
                back = turn(f, 1, turn(f, 0, x)[1:])[1:]
                largest = max(abs(number) for number in reckoned.numbers(f, x))
                for before, after in zip(reckoned.numbers(f, x), reckoned.numbers(f, back)):
                    self.assertAlmostEqual(after, n * before, delta=n * largest * close)


class RefusedTurnTest(unittest.TestCase):
    def test_other_ways_are_refused(self):
        for f in (0, 1):
            for way in (2, 3, 4, 8) + hardware.REFUSED_OPS:
                for n in (1, 2, 8000):
                    with self.subTest(f=f, way=way, n=n):
                        self.assertEqual(turn(f, way, [hardware.ONE[f]] * (2 * n)), [-2])


if __name__ == "__main__":
    unittest.main()

"""Promises 21 and 22: stream. Written answers first, then answers reckoned apart from the program."""

import math
import unittest

from bitsignals.desk import dot, stream
from tests import hardware, reckoned
from tests.test_conversions import SINGLE_NANS

ALL = 4294967295
NAN = 0x7FC00000
ONE = 0x3F800000
RATES = (1, 2, 3, 4, 5, 6, 7, 8, 147, 160, 255, 256)


def singles(*values):
    return [hardware.to_bits(0, value) for value in values]


def pushed(answer):
    """The three pushes' answers and rows."""
    found = []
    place = 1
    while place < len(answer):
        count = answer[place + 1]
        found.append((answer[place], answer[place + 2:place + 2 + count]))
        place += 2 + count
    return found


class WrittenStreamTest(unittest.TestCase):
    def test_one_tap_gives_back_what_comes(self):
        self.assertEqual(
            stream(1, 1, ALL, [ONE], singles(1.0, 2.0), [], singles(3.0)),
            [0, 2, 2] + singles(1.0, 2.0) + [0, 0, 1, 1] + singles(3.0))

    def test_taps_reach_back_over_pushes(self):
        # Each that goes is x + 10 y + 100 z: the last, the one before, the one before that.
        self.assertEqual(
            stream(1, 1, ALL, singles(1.0, 10.0, 100.0), singles(1.0, 2.0), singles(3.0), singles(4.0, 5.0)),
            [0, 2, 2] + singles(1.0, 12.0) + [1, 1] + singles(123.0) + [2, 2] + singles(234.0, 345.0))

    def test_up(self):
        # Taps 0 and 2 for the even ones, taps 1 and 3 for the odd ones.
        self.assertEqual(
            stream(2, 1, ALL, singles(1.0, 2.0, 10.0, 20.0), singles(1.0), singles(3.0), []),
            [0, 2, 2] + singles(1.0, 2.0) + [2, 2] + singles(13.0, 26.0) + [0, 0])

    def test_down(self):
        # One goes behind the 1st, the 3rd, the 5th that came.
        self.assertEqual(
            stream(1, 2, ALL, singles(1.0, 10.0), singles(1.0, 2.0, 3.0), singles(4.0), singles(5.0)),
            [0, 2, 2] + singles(1.0, 23.0) + [0, 0] + [1, 1] + singles(45.0))

    def test_three_by_two(self):
        # The i-th that goes is of phase 2 i modulo 3: 0, 2, 1, behind the numbers 0, 0, 1, 2, 2, 3.
        self.assertEqual(
            stream(3, 2, ALL, singles(1.0, 2.0, 4.0), singles(1.0), singles(10.0, 100.0), singles(1000.0)),
            [0, 2, 2] + singles(1.0, 4.0) + [3, 3] + singles(20.0, 100.0, 400.0) + [1, 1] + singles(2000.0))

    def test_rates_are_not_shortened(self):
        # 2 / 2 is not 1 / 1: only taps of phase 0 are used.
        self.assertEqual(
            stream(2, 2, ALL, singles(1.0, 2.0, 10.0, 20.0), singles(1.0, 3.0), [], []),
            [0, 2, 2] + singles(1.0, 13.0) + [0, 0, 0, 0])

    def test_fewer_taps_than_up_and_phases_without_a_tap(self):
        self.assertEqual(
            stream(4, 1, ALL, singles(1.0, 2.0), singles(3.0), [], singles(-5.0)),
            [0, 4, 4] + singles(3.0, 6.0, 0.0, 0.0) + [0, 0] + [4, 4] + singles(-5.0, -10.0, 0.0, 0.0))
        # A phase without a tap is 0 times the number: infinity times 0 is NaN.
        self.assertEqual(
            stream(3, 1, ALL, [ONE], singles(math.inf), [], []),
            [0, 3, 3, 0x7F800000, NAN, NAN, 0, 0, 0, 0])

    def test_places_without_a_number_are_zeros(self):
        # 4 products each: the taps beyond the numbers that came meet 0, and infinity times 0 is NaN.
        infinity = 0x7F800000
        self.assertEqual(
            stream(1, 1, ALL, [ONE, infinity], singles(1.0, 1.0), [], []),
            [0, 2, 2, NAN, infinity, 0, 0, 0, 0])
        # One tap makes 4 products: the numbers before the last meet a tap 0.
        self.assertEqual(
            stream(1, 1, ALL, [ONE], [infinity, ONE, ONE, ONE, ONE], [], []),
            [0, 5, 5, infinity, NAN, NAN, NAN, ONE, 0, 0, 0, 0])
        # 5 taps make 8.
        self.assertEqual(
            stream(1, 1, ALL, [ONE] + [0] * 4, [infinity] + [ONE] * 8, [], [])[3:],
            [infinity] + [NAN] * 7 + [ONE] + [0] * 4)

    def test_groups_of_four(self):
        e = 2.0 ** -24
        for values, want in (
            ((1.0, e, e, e), 0x3F800001),
            ((1.0, e, e), 0x3F800000),
            ((1.0, 0.0, 0.0, 0.0, e, e, e, e), 0x3F800002),
            ((e, e, e, e, 1.0), 0x3F800002),
        ):
            # The j-th tap meets the number that came j before the last.
            answer = stream(1, 1, ALL, singles(*values), [ONE] * len(values), [], [])
            self.assertEqual(answer[2 + len(values)], want)

    def test_zeros_have_no_sign(self):
        minus = 0x80000000
        self.assertEqual(stream(1, 1, ALL, [minus] * 4, [ONE] * 2, [minus], [])[:7], [0, 2, 2, 0, 0, 1, 1])
        self.assertEqual(stream(1, 1, ALL, [ONE] * 4, [minus] * 5, [], []), [0, 5, 5, 0, 0, 0, 0, 0, 0, 0, 0, 0])

    def test_nan_of_any_bits(self):
        for bits in SINGLE_NANS:
            self.assertEqual(stream(1, 1, ALL, [bits], [ONE], [0], []), [0, 1, 1, NAN, 1, 1, NAN, 0, 0])
            self.assertEqual(
                stream(1, 1, ALL, [ONE], [bits], [ONE] * 3, [ONE] * 2),
                [0, 1, 1, NAN, 3, 3, NAN, NAN, NAN, 2, 2, ONE, ONE])


class StartTest(unittest.TestCase):
    def test_rates(self):
        for up in (0, 1, 256, 257, 65536, ALL):
            for down in (0, 1, 256, 257, 65536, ALL):
                answer = stream(up, down, ALL, [ONE], [ONE], [], [])
                with self.subTest(up=up, down=down):
                    if up in (1, 256) and down in (1, 256):
                        self.assertEqual(answer, reckoned.stream(up, down, ALL, [ONE], [ONE], [], []))
                        self.assertEqual(answer[0], 0)
                    else:
                        self.assertEqual(answer, [-2])

    def test_taps(self):
        x = hardware.ordinary(0, 5, 1)
        for count in (0, 4097, 5000, 30000):
            self.assertEqual(stream(1, 1, ALL, [ONE] * count, x, x, x), [-2])
        for count in (1, 2, 4095, 4096):
            taps = hardware.ordinary(0, count, count)
            for up, down in ((1, 1), (256, 1), (1, 256), (3, 2)):
                with self.subTest(count=count, up=up, down=down):
                    answer = stream(up, down, ALL, taps, x, [], x)
                    self.assertTrue(answer == reckoned.stream(up, down, ALL, taps, x, [], x))

    def test_nothing_is_pushed_behind_a_refusal(self):
        for most in (0, 1, ALL):
            self.assertEqual(stream(0, 1, most, [ONE], [ONE], [ONE], [ONE]), [-2])
            self.assertEqual(stream(1, 1, most, [], [ONE], [ONE], [ONE]), [-2])
            self.assertEqual(stream(1, 257, most, [ONE], [], [], []), [-2])


class MostTest(unittest.TestCase):
    def test_nothing_goes_of_nothing(self):
        for most in (0, 1, ALL):
            self.assertEqual(stream(3, 2, most, [ONE], [], [], []), [0, 0, 0, 0, 0, 0, 0])

    def test_just_enough_and_one_too_few(self):
        x = singles(1.0, 2.0, 3.0)
        self.assertEqual(stream(1, 1, 3, [ONE], x, [], []), [0, 3, 3] + x + [0, 0, 0, 0])
        self.assertEqual(stream(1, 1, 2, [ONE], x, [], []), [0, -2, 0, 0, 0, 0, 0])
        self.assertEqual(stream(1, 1, 0, [ONE], x, [], x), [0, -2, 0, 0, 0, -2, 0])

    def test_most_is_for_each_push(self):
        self.assertEqual(stream(1, 1, 1, [ONE], [ONE], [ONE], [ONE]), [0, 1, 1, ONE, 1, 1, ONE, 1, 1, ONE])

    def test_a_refused_row_has_not_come(self):
        taps = singles(1.0, 10.0, 100.0)
        x, y, z = singles(1.0), singles(2.0, 3.0), singles(4.0)
        self.assertEqual(
            stream(1, 1, 1, taps, x, y, z),
            [0, 1, 1] + singles(1.0) + [-2, 0] + [1, 1] + singles(14.0))
        # The first refused: the second begins as if nothing had come.
        self.assertEqual(
            stream(1, 1, 1, taps, y, x, z),
            [0, -2, 0] + [1, 1] + singles(1.0) + [1, 1] + singles(14.0))

    def test_as_if_it_had_not_been_handed_over(self):
        taps = hardware.ordinary(0, 20, 3)
        long = hardware.ordinary(0, 50, 4)
        for up, down in ((1, 1), (2, 3), (5, 3), (7, 7), (160, 147), (1, 9)):
            for first, last in ((0, 3), (1, 4), (4, 1), (5, 5)):
                x, z = hardware.ordinary(0, first, 5), hardware.ordinary(0, last, 6)
                goes = max(count for count, row in pushed(stream(up, down, ALL, taps, x, [], z)))
                without = stream(up, down, goes, taps, x, [], z)
                answer = stream(up, down, goes, taps, x, long, z)
                with self.subTest(up=up, down=down, first=first, last=last):
                    self.assertEqual(pushed(answer)[1], (-2, []))
                    self.assertEqual(pushed(answer)[0::2], pushed(without)[0::2])

    def test_a_row_that_would_take_long_is_refused_at_once(self):
        row = [ONE] * 30000
        self.assertEqual(stream(256, 1, 7679999, [ONE] * 4096, row, row, row), [0, -2, 0, -2, 0, -2, 0])


class ReckonedStreamTest(unittest.TestCase):
    def test_rates_with_and_without_a_common_divisor(self):
        x, y, z = (hardware.ordinary(0, count, count) for count in (7, 4, 9))
        for up in RATES:
            for down in RATES:
                taps = hardware.ordinary(0, 1 + (7 * up + 3 * down) % 50, up + down)
                with self.subTest(up=up, down=down):
                    self.assertEqual(stream(up, down, ALL, taps, x, y, z), reckoned.stream(up, down, ALL, taps, x, y, z))

    def test_every_sort_of_row(self):
        for up, down in ((1, 1), (2, 1), (1, 2), (3, 2), (4, 6), (5, 7)):
            for sort in hardware.SORTS:
                for other in hardware.SORTS:
                    for count in (1, 3, 4, 13):
                        taps = sort(0, count, count + up)
                        x, y, z = (other(0, length, length + down) for length in (6, 5, 9))
                        with self.subTest(up=up, down=down, sort=sort.__name__, other=other.__name__, count=count):
                            self.assertEqual(
                                stream(up, down, ALL, taps, x, y, z), reckoned.stream(up, down, ALL, taps, x, y, z))

    def test_sums_that_just_grow_beyond_the_greatest(self):
        for field in range(170, 255, 3):
            for other in (126, 130, 170, 177, 200, 253):
                taps = [(field << 23) + 5, (field << 23) + 6 + (1 << 31), field << 23]
                x = [(other << 23) + 7, other << 23, (other << 23) + 9 + (1 << 31)]
                with self.subTest(field=field, other=other):
                    self.assertEqual(stream(2, 1, ALL, taps, x, x, x), reckoned.stream(2, 1, ALL, taps, x, x, x))

    def test_a_push_may_be_of_another_sort_than_the_one_before(self):
        # Finite numbers and others in turn: what came before still counts.
        tame = hardware.ordinary(0, 5, 8)
        wild = hardware.rarely_endless(0, 5, 5)
        taps = hardware.ordinary(0, 6, 9)
        for x, y, z in ((tame, wild, tame), (wild, tame, wild), (tame, [0x7F000000] * 3, tame), (tame, tame, [1] * 5)):
            for up, down in ((1, 1), (3, 2), (2, 3)):
                self.assertEqual(stream(up, down, ALL, taps, x, y, z), reckoned.stream(up, down, ALL, taps, x, y, z))

    def test_one_piece_or_three(self):
        for up, down in ((1, 1), (3, 2), (2, 3), (160, 147), (147, 160), (4, 4), (256, 255)):
            taps = hardware.ordinary(0, 100, up)
            x = hardware.ordinary(0, 40, down)
            whole = pushed(stream(up, down, ALL, taps, x, [], []))[0][1]
            for first, second in ((0, 0), (0, 40), (40, 40), (1, 2), (13, 29), (20, 20), (39, 40)):
                pieces = pushed(stream(up, down, ALL, taps, x[:first], x[first:second], x[second:]))
                with self.subTest(up=up, down=down, first=first, second=second):
                    self.assertEqual([number for answer, row in pieces for number in row], whole)
                    self.assertEqual([answer for answer, row in pieces], [len(row) for answer, row in pieces])

    def test_each_is_a_sum_of_dot(self):
        taps, x = hardware.ordinary(0, 8, 1), hardware.ordinary(0, 12, 2)
        answer = pushed(stream(1, 1, ALL, taps, x, [], []))[0][1]
        for i in range(7, 12):
            self.assertEqual([0, answer[i]], dot(0, taps, x[i - 7:i + 1][::-1]))

    def test_long_rows(self):
        rows = [hardware.ordinary(0, 30000, seed) for seed in (1, 2, 3)]
        taps = hardware.ordinary(0, 4096, 4)
        for up, down, count in ((1, 1, 5), (2, 3, 9), (256, 255, 300), (1, 256, 50)):
            with self.subTest(up=up, down=down):
                answer = stream(up, down, ALL, taps[:count], *rows)
                self.assertTrue(answer == reckoned.stream(up, down, ALL, taps[:count], *rows))

    def test_all_taps_over_long_rows(self):
        rows = [hardware.ordinary(0, 30000, seed) for seed in (1, 2, 3)]
        taps = hardware.ordinary(0, 4096, 4)
        answer = stream(1, 256, 118, taps, *rows)
        self.assertEqual([count for count, row in pushed(answer)], [118, 117, 117])
        # The last that goes, behind the number 351 times 256.
        last = (rows[0] + rows[1] + rows[2])[:351 * 256 + 1][-4096:][::-1]
        self.assertEqual(answer[-1], dot(0, taps, last)[1])


if __name__ == "__main__":
    unittest.main()

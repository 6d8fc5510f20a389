"""Promise 6: wide, narrow, whole, from. Written answers first, then the machine's own numbers."""

import math
import unittest

from bitsignals.desk import from_of, narrow, whole, wide
from tests import hardware

LOWEST = -2147483648
HIGHEST = 2147483647

SINGLE_NANS = (0x7F800001, 0x7FA00000, 0x7FBFFFFF, 0x7FC00000, 0x7FC12345, 0x7FFFFFFF,
               0xFF800001, 0xFFC00000, 0xFFC12345, 0xFFFFFFFF)
DOUBLE_NANS = (0x7FF0000000000001, 0x7FF0000020000000, 0x7FF4000000000000, 0x7FF7FFFFFFFFFFFF, 0x7FF8000000000000,
               0x7FF8000012345678, 0x7FFFFFFFFFFFFFFF, 0xFFF0000000000001, 0xFFF8000000000000, 0xFFFFFFFFFFFFFFFF)
NANS = (SINGLE_NANS, DOUBLE_NANS)

WIDENED = (
    (0x3F800000, 0x3FF0000000000000),  # 1
    (0xBF800000, 0xBFF0000000000000),
    (0x40490FDB, 0x400921FB60000000),  # pi as a single
    (0x3DCCCCCD, 0x3FB99999A0000000),  # a tenth as a single
    (0x3F800001, 0x3FF0000020000000),
    (0x4B7FFFFF, 0x416FFFFFE0000000),
    (0x7F7FFFFF, 0x47EFFFFFE0000000),  # the greatest
    (0xFF7FFFFF, 0xC7EFFFFFE0000000),
    (0x00800000, 0x3810000000000000),  # the least that is no denormal
    (0x007FFFFF, 0x380FFFFFC0000000),  # denormals: no denormal doubles
    (0x00400000, 0x3800000000000000),
    (0x00000003, 0x36B8000000000000),
    (0x00000002, 0x36B0000000000000),
    (0x00000001, 0x36A0000000000000),  # the least
    (0x80000001, 0xB6A0000000000000),
    (0x807FFFFF, 0xB80FFFFFC0000000),
    (0x00000000, 0x0000000000000000),
    (0x80000000, 0x8000000000000000),
    (0x7F800000, 0x7FF0000000000000),
    (0xFF800000, 0xFFF0000000000000),
)

NARROWED = (
    # Two as near: to the even one; and either side of that.
    (0x3FF0000010000000, 0x3F800000),
    (0x3FF000000FFFFFFF, 0x3F800000),
    (0x3FF0000010000001, 0x3F800001),
    (0x3FF0000030000000, 0x3F800002),
    (0x3FF000002FFFFFFF, 0x3F800001),
    (0x3FF0000030000001, 0x3F800002),
    (0xBFF0000010000000, 0xBF800000),
    (0xBFF0000010000001, 0xBF800001),
    (0xBFF0000030000000, 0xBF800002),
    (0x3FEFFFFFF0000000, 0x3F800000),  # carries into the next power
    (0x3FEFFFFFEFFFFFFF, 0x3F7FFFFF),
    (0x3FB999999999999A, 0x3DCCCCCD),  # a tenth
    (0x400921FB54442D18, 0x40490FDB),  # pi
    # Beyond the greatest: half a place beyond is infinity, below that the greatest.
    (0x47EFFFFFE0000000, 0x7F7FFFFF),
    (0x47EFFFFFEFFFFFFF, 0x7F7FFFFF),
    (0x47EFFFFFF0000000, 0x7F800000),
    (0x47F0000000000000, 0x7F800000),
    (0xC7EFFFFFEFFFFFFF, 0xFF7FFFFF),
    (0xC7EFFFFFF0000000, 0xFF800000),
    (0x7FEFFFFFFFFFFFFF, 0x7F800000),
    (0xFFEFFFFFFFFFFFFF, 0xFF800000),
    # Denormals, and what rounds up out of them.
    (0x3810000000000000, 0x00800000),
    (0x380FFFFFFFFFFFFF, 0x00800000),
    (0x380FFFFFE0000000, 0x00800000),
    (0x380FFFFFDFFFFFFF, 0x007FFFFF),
    (0x380FFFFFC0000000, 0x007FFFFF),
    (0x3800000000000000, 0x00400000),
    (0x36B8000000000000, 0x00000003),
    (0x36B4000000000000, 0x00000002),  # two and a half of the least: to the even one
    (0x36B4000000000001, 0x00000003),
    (0x36BC000000000000, 0x00000004),  # three and a half
    (0x36A8000000000000, 0x00000002),  # one and a half
    (0x36A7FFFFFFFFFFFF, 0x00000001),
    (0x36A0000000000000, 0x00000001),
    (0xB6A8000000000000, 0x80000002),
    # Half of the least falls to zero, with its sign; a little more does not.
    (0x3690000000000000, 0x00000000),
    (0x3690000000000001, 0x00000001),
    (0x368FFFFFFFFFFFFF, 0x00000000),
    (0xB690000000000000, 0x80000000),
    (0xB690000000000001, 0x80000001),
    # Denormal doubles.
    (0x0000000000000001, 0x00000000),
    (0x8000000000000001, 0x80000000),
    (0x000FFFFFFFFFFFFF, 0x00000000),
    (0x800FFFFFFFFFFFFF, 0x80000000),
    (0x0010000000000000, 0x00000000),
    (0x0000000000000000, 0x00000000),
    (0x8000000000000000, 0x80000000),
    (0x7FF0000000000000, 0x7F800000),
    (0xFFF0000000000000, 0xFF800000),
)

# A number, then what it is to the nearest, down, up, towards 0.
WHOLES = (
    (0.5, 0, 0, 1, 0), (-0.5, 0, -1, 0, 0),
    (1.5, 2, 1, 2, 1), (-1.5, -2, -2, -1, -1),
    (2.5, 2, 2, 3, 2), (-2.5, -2, -3, -2, -2),
    (3.5, 4, 3, 4, 3), (-3.5, -4, -4, -3, -3),
    (0.25, 0, 0, 1, 0), (-0.25, 0, -1, 0, 0),
    (0.75, 1, 0, 1, 0), (-0.75, -1, -1, 0, 0),
    (0.50000005960464478, 1, 0, 1, 0), (-0.50000005960464478, -1, -1, 0, 0),
    (0.49999997019767761, 0, 0, 1, 0), (-0.49999997019767761, 0, -1, 0, 0),
    (1e-40, 0, 0, 1, 0), (-1e-40, 0, -1, 0, 0),
    (0.0, 0, 0, 0, 0), (-0.0, 0, 0, 0, 0),
    (1.0, 1, 1, 1, 1), (-1.0, -1, -1, -1, -1),
    (8388607.5, 8388608, 8388607, 8388608, 8388607), (-8388607.5, -8388608, -8388608, -8388607, -8388607),
    (2147483520.0,) + (2147483520,) * 4, (-2147483520.0,) + (-2147483520,) * 4,
    (2147483648.0,) + (HIGHEST,) * 4, (-2147483648.0,) + (LOWEST,) * 4,
    (2147483904.0,) + (HIGHEST,) * 4, (-2147483904.0,) + (LOWEST,) * 4,
    (1e30,) + (HIGHEST,) * 4, (-1e30,) + (LOWEST,) * 4,
    (math.inf,) + (HIGHEST,) * 4, (-math.inf,) + (LOWEST,) * 4,
    (math.nan, 0, 0, 0, 0),
)

# What doubles alone can hold.
DOUBLE_WHOLES = (
    (2147483647.0,) + (HIGHEST,) * 4, (-2147483647.0,) + (-HIGHEST,) * 4,
    (2147483646.5, 2147483646, 2147483646, HIGHEST, 2147483646),
    (2147483647.5, HIGHEST, HIGHEST, HIGHEST, HIGHEST),
    (2147483647.25, HIGHEST, HIGHEST, HIGHEST, HIGHEST),
    (-2147483647.5, LOWEST, LOWEST, -HIGHEST, -HIGHEST),
    (-2147483648.5, LOWEST, LOWEST, LOWEST, LOWEST),
    (-2147483648.75, LOWEST, LOWEST, LOWEST, LOWEST),
    (-2147483649.0,) + (LOWEST,) * 4,
    (4503599627370495.5,) + (HIGHEST,) * 4,
    (1e300,) + (HIGHEST,) * 4, (-1e300,) + (LOWEST,) * 4,
    (5e-324, 0, 0, 1, 0), (-5e-324, 0, -1, 0, 0),
    (0.49999999999999994, 0, 0, 1, 0), (0.50000000000000011, 1, 0, 1, 0),
)

FROM = (
    # A whole number, the single, the double.
    (0, 0x00000000, 0x0000000000000000),
    (1, 0x3F800000, 0x3FF0000000000000),
    (-1, 0xBF800000, 0xBFF0000000000000),
    (2, 0x40000000, 0x4000000000000000),
    (-3, 0xC0400000, 0xC008000000000000),
    (16777215, 0x4B7FFFFF, 0x416FFFFFE0000000),
    (16777216, 0x4B800000, 0x4170000000000000),
    (16777217, 0x4B800000, 0x4170000010000000),  # two as near: to the even one
    (16777218, 0x4B800001, 0x4170000020000000),
    (16777219, 0x4B800002, 0x4170000030000000),
    (-16777217, 0xCB800000, 0xC170000010000000),
    (-16777219, 0xCB800002, 0xC170000030000000),
    (33554434, 0x4C000000, 0x4180000010000000),
    (33554433, 0x4C000000, 0x4180000008000000),
    (33554435, 0x4C000001, 0x4180000018000000),
    (33554438, 0x4C000002, 0x4180000030000000),
    (2147483583, 0x4EFFFFFF, 0x41DFFFFFEFC00000),
    (2147483584, 0x4F000000, 0x41DFFFFFF0000000),  # two as near, and the even one is 2147483648
    (2147483585, 0x4F000000, 0x41DFFFFFF0400000),
    (2147483647, 0x4F000000, 0x41DFFFFFFFC00000),
    (-2147483647, 0xCF000000, 0xC1DFFFFFFFC00000),
    (-2147483648, 0xCF000000, 0xC1E0000000000000),
)

WAYS = (round, math.floor, math.ceil, math.trunc)


def whole_by_machine(f, how, bits):
    number = hardware.to_number(f, bits)
    if math.isnan(number):
        return 0
    if math.isinf(number):
        return HIGHEST if number > 0 else LOWEST
    return max(LOWEST, min(HIGHEST, WAYS[how](number)))


class WideTest(unittest.TestCase):
    def test_written_answers(self):
        for single, double in WIDENED:
            with self.subTest(single=hex(single)):
                self.assertEqual(wide([single]), [0, double])

    def test_nan_of_any_bits(self):
        for single in SINGLE_NANS:
            with self.subTest(single=hex(single)):
                self.assertEqual(wide([single]), [0, 0x7FF8000000000000])

    def test_as_the_machine_does(self):
        x = hardware.edges(0) + hardware.mixed(0, 30000 - len(hardware.edges(0)), 3)
        self.assertTrue(wide(x) == [0] + [hardware.to_bits(1, hardware.to_number(0, bits)) for bits in x])

    def test_no_number_is_lost(self):
        x = [bits for bits in hardware.mixed(0, 4000, 4) if bits & 0x7FFFFFFF <= 0x7F800000]
        self.assertEqual(narrow(wide(x)[1:]), [0] + x)


class NarrowTest(unittest.TestCase):
    def test_numbers_that_a_single_holds(self):
        for single, double in WIDENED:
            with self.subTest(double=hex(double)):
                self.assertEqual(narrow([double]), [0, single])

    def test_numbers_to_be_rounded(self):
        for double, single in NARROWED:
            with self.subTest(double=hex(double)):
                self.assertEqual(narrow([double]), [0, single])

    def test_nan_of_any_bits(self):
        for double in DOUBLE_NANS:
            with self.subTest(double=hex(double)):
                self.assertEqual(narrow([double]), [0, 0x7FC00000])

    def test_as_the_machine_does(self):
        x = hardware.edges(1) + hardware.mixed(1, 8000, 5)
        x += [hardware.near_one(1, bits, i % 16) + ((i % 300 - 150) << 52) for i, bits in enumerate(x[:7000])]
        self.assertTrue(narrow(x) == [0] + [hardware.to_bits(0, hardware.to_number(1, bits)) for bits in x])


class WholeTest(unittest.TestCase):
    def assert_wholes(self, f, rows):
        for row in rows:
            for how in range(4):
                with self.subTest(f=f, number=row[0], how=how):
                    self.assertEqual(whole(f, how, [hardware.to_bits(f, row[0])]), [0, row[1 + how]])

    def test_written_answers(self):
        for f in (0, 1):
            self.assert_wholes(f, WHOLES)
        self.assert_wholes(1, DOUBLE_WHOLES)

    def test_nan_of_any_bits(self):
        for f in (0, 1):
            for how in range(4):
                self.assertEqual(whole(f, how, list(NANS[f])), [0] + [0] * len(NANS[f]))

    def test_as_the_machine_does(self):
        for f in (0, 1):
            x = hardware.edges(f) + hardware.mixed(f, 4000, 6)
            x += [hardware.to_bits(f, hardware.to_number(f, bits) * 1000000.0) for bits in x]
            for how in range(4):
                with self.subTest(f=f, how=how):
                    self.assertTrue(whole(f, how, x) == [0] + [whole_by_machine(f, how, bits) for bits in x])

    def test_other_ways_are_refused(self):
        for f in (0, 1):
            for how in (4, 5, 8) + hardware.REFUSED_OPS:
                for x in ([], [hardware.ONE[f]], [0] * 16000):
                    with self.subTest(f=f, how=how):
                        self.assertEqual(whole(f, how, x), [-2])


class FromTest(unittest.TestCase):
    def test_written_answers(self):
        for number, single, double in FROM:
            with self.subTest(number=number):
                self.assertEqual(from_of(0, [number]), [0, single])
                self.assertEqual(from_of(1, [number]), [0, double])

    def test_as_the_machine_does(self):
        draws = [word % 4294967296 - 2147483648 for word in hardware.mixed(1, 15000, 7)]
        x = draws + [draw >> (i % 32) for i, draw in enumerate(draws)]
        for f in (0, 1):
            self.assertTrue(from_of(f, x) == [0] + [hardware.to_bits(f, float(number)) for number in x])

    def test_doubles_hold_every_whole_number(self):
        x = [number for _, number in zip(range(3000), range(LOWEST, HIGHEST, 715827))] + [LOWEST, HIGHEST]
        for how in range(4):
            self.assertEqual(whole(1, how, from_of(1, x)[1:]), [0] + x)


class RowsTest(unittest.TestCase):
    def test_no_numbers(self):
        self.assertEqual(wide([]), [0])
        self.assertEqual(narrow([]), [0])
        for f in (0, 1):
            self.assertEqual(from_of(f, []), [0])
            for how in range(4):
                self.assertEqual(whole(f, how, []), [0])

    def test_the_longest_rows(self):
        self.assertTrue(wide([0x3F800000] * 30000) == [0] + [0x3FF0000000000000] * 30000)
        self.assertTrue(narrow([0x3FF0000000000000] * 16000) == [0] + [0x3F800000] * 16000)
        for f in (0, 1):
            self.assertTrue(from_of(f, [1] * 30000) == [0] + [hardware.ONE[f]] * 30000)
            self.assertTrue(whole(f, 0, [hardware.ONE[f]] * 16000) == [0] + [1] * 16000)


if __name__ == "__main__":
    unittest.main()

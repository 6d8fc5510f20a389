"""Promises 3 and 4: pair and look, with point 19's product. Written answers, then a second opinion."""

import unittest

from bitsignals.desk import look, pair
from tests import hardware

SINGLE, DOUBLE = 0, 1


def doubles(*numbers):
    return [hardware.to_bits(DOUBLE, number) for number in numbers]


def singles(*numbers):
    return [hardware.to_bits(SINGLE, number) for number in numbers]


def in_format(f, numbers):
    return singles(*numbers) if f == SINGLE else doubles(*numbers)


INF = float("inf")
NAN = float("nan")

# a, b, then op 0's, op 1's and op 2's pair: numbers that both formats hold.
PLAIN = (
    ((1.0, 2.0), (3.0, 4.0), (-5.0, 10.0), (11.0, 2.0), (0.44, 0.08)),
    ((3.0, 4.0), (1.0, 2.0), (-5.0, 10.0), (11.0, -2.0), (2.2, -0.4)),
    ((1.0, 0.0), (0.0, 1.0), (0.0, 1.0), (0.0, -1.0), (0.0, -1.0)),
    ((0.0, 1.0), (0.0, 1.0), (-1.0, 0.0), (1.0, 0.0), (1.0, 0.0)),
    ((2.5, -1.5), (-0.5, 2.0), (1.75, 5.75), (-4.25, -4.25), (-1.0, -1.0)),
    # Zeros: signs come out of each product, difference and sum.
    ((0.0, 0.0), (0.0, 0.0), (0.0, 0.0), (0.0, 0.0), (NAN, NAN)),
    ((-0.0, 0.0), (1.0, 0.0), (-0.0, 0.0), (0.0, 0.0), (0.0, 0.0)),
    ((-0.0, 0.0), (1.0, -0.0), (0.0, 0.0), (-0.0, 0.0), (-0.0, 0.0)),
    ((-0.0, -0.0), (1.0, 0.0), (0.0, -0.0), (-0.0, 0.0), (-0.0, 0.0)),
    ((1.0, 2.0), (0.0, 0.0), (0.0, 0.0), (0.0, 0.0), (NAN, NAN)),
    # Infinities: of a product that is NaN the part is NaN, the other may be a number.
    ((INF, 1.0), (1.0, 0.0), (INF, NAN), (INF, NAN), (INF, NAN)),
    ((INF, 1.0), (1.0, 1.0), (INF, INF), (INF, -INF), (INF, -INF)),
    ((INF, INF), (1.0, 1.0), (NAN, INF), (INF, NAN), (INF, NAN)),
    ((1.0, 1.0), (INF, 1.0), (INF, INF), (INF, INF), (NAN, NAN)),
    ((-INF, 2.0), (1.0, 3.0), (-INF, -INF), (-INF, INF), (-INF, INF)),
    ((NAN, 1.0), (1.0, 1.0), (NAN, NAN), (NAN, NAN), (NAN, NAN)),
    ((1.0, 1.0), (1.0, NAN), (NAN, NAN), (NAN, NAN), (NAN, NAN)),
)

# Bits: each part is made of numbers that were rounded by themselves.
ROUNDED = (
    # (1 + u) (1 + u) - 1 1: the square is rounded to 1 + 2 u first, so u u is lost.
    (SINGLE, 0, (0x3F800001, 0x3F800000), (0x3F800001, 0x3F800000), (0x34800000, 0x40000001)),
    (DOUBLE, 0, (0x3FF0000000000001, 0x3FF0000000000000), (0x3FF0000000000001, 0x3FF0000000000000),
     (0x3CC0000000000000, 0x4000000000000001)),
    # One product grows beyond the greatest number, the other doesn't.
    (SINGLE, 0, (0x7F7FFFFF, 0x3F800000), (0x40000000, 0x3F800000), (0x7F800000, 0x7F7FFFFF)),
    (DOUBLE, 0, (0x7FEFFFFFFFFFFFFF, 0x3FF0000000000000), (0x4000000000000000, 0x3FF0000000000000),
     (0x7FF0000000000000, 0x7FEFFFFFFFFFFFFF)),
    # Both do, and their difference is no number: (M + M i) (2 + 2 i).
    (SINGLE, 0, (0x7F7FFFFF, 0x7F7FFFFF), (0x40000000, 0x40000000), (0x7FC00000, 0x7F800000)),
    (DOUBLE, 0, (0x7FEFFFFFFFFFFFFF, 0x7FEFFFFFFFFFFFFF), (0x4000000000000000, 0x4000000000000000),
     (0x7FF8000000000000, 0x7FF0000000000000)),
    (SINGLE, 1, (0x7F7FFFFF, 0x7F7FFFFF), (0x40000000, 0x40000000), (0x7F800000, 0x7FC00000)),
    (DOUBLE, 1, (0x7FEFFFFFFFFFFFFF, 0x7FEFFFFFFFFFFFFF), (0x4000000000000000, 0x4000000000000000),
     (0x7FF0000000000000, 0x7FF8000000000000)),
    # The product falls to zero; the divisor does too.
    (SINGLE, 2, (0x00000001, 0x00000001), (0x00000001, 0x00000000), (0x7FC00000, 0x7FC00000)),
    (DOUBLE, 2, (0x0000000000000001, 0x0000000000000001), (0x0000000000000001, 0x0000000000000000),
     (0x7FF8000000000000, 0x7FF8000000000000)),
    # The divisor alone grows beyond the greatest number: the quotient is zero.
    (SINGLE, 2, (0x3F800000, 0x3F800000), (0x7F000000, 0x00000000), (0x00000000, 0x00000000)),
    (SINGLE, 2, (0x3F800000, 0xBF800000), (0x7F000000, 0x00000000), (0x00000000, 0x80000000)),
    (DOUBLE, 2, (0x3FF0000000000000, 0xBFF0000000000000), (0x7FE0000000000000, 0x0000000000000000),
     (0x0000000000000000, 0x8000000000000000)),
    # A NaN's bits don't come through, whatever they are.
    (SINGLE, 0, (0xFFC12345, 0x3F800000), (0x3F800000, 0x3F800000), (0x7FC00000, 0x7FC00000)),
    (SINGLE, 1, (0x3F800000, 0x3F800000), (0x3F800000, 0x7F800001), (0x7FC00000, 0x7FC00000)),
    (DOUBLE, 2, (0x3FF0000000000000, 0x3FF0000000000000), (0xFFFFFFFFFFFFFFFF, 0x3FF0000000000000),
     (0x7FF8000000000000, 0x7FF8000000000000)),
)

LOOKS = (
    (
        (0x40400000, 0x40800000, 0x41C80000, 0x40A00000),  # 3, 4: 25, 5
        (0xC0400000, 0x40800000, 0x41C80000, 0x40A00000),
        (0x3F800000, 0x3F800000, 0x40000000, 0x3FB504F3),
        (0x3F800000, 0xBF800000, 0x40000000, 0x3FB504F3),
        (0x3F800001, 0x3F800001, 0x40000002, 0x3FB504F5),
        (0x00000000, 0x80000000, 0x00000000, 0x00000000),
        (0x80000000, 0x80000000, 0x00000000, 0x00000000),
        (0x00000001, 0x00000001, 0x00000000, 0x00000000),  # the squares fall to zero
        (0x1A800000, 0x00000000, 0x00000002, 0x1A800000),  # a denormal's root
        (0x7F000000, 0x00000000, 0x7F800000, 0x7F800000),  # one square is too great
        (0x5F7FFFFF, 0x5F7FFFFF, 0x7F800000, 0x7F800000),  # only their sum is
        (0xFF800000, 0x00000000, 0x7F800000, 0x7F800000),
        (0xFF800000, 0x7F800000, 0x7F800000, 0x7F800000),
        (0x7F800000, 0x7F800001, 0x7FC00000, 0x7FC00000),
        (0xFFFFFFFF, 0x3F800000, 0x7FC00000, 0x7FC00000),
    ),
    (
        (0x4008000000000000, 0x4010000000000000, 0x4039000000000000, 0x4014000000000000),
        (0xC008000000000000, 0x4010000000000000, 0x4039000000000000, 0x4014000000000000),
        (0x3FF0000000000000, 0x3FF0000000000000, 0x4000000000000000, 0x3FF6A09E667F3BCD),
        (0x3FF0000000000000, 0xBFF0000000000000, 0x4000000000000000, 0x3FF6A09E667F3BCD),
        (0x3FF0000000000001, 0x3FF0000000000001, 0x4000000000000002, 0x3FF6A09E667F3BCE),
        (0x0000000000000000, 0x8000000000000000, 0x0000000000000000, 0x0000000000000000),
        (0x8000000000000000, 0x8000000000000000, 0x0000000000000000, 0x0000000000000000),
        (0x0000000000000001, 0x0000000000000001, 0x0000000000000000, 0x0000000000000000),
        (0x1E60000000000000, 0x0000000000000000, 0x0000000000000001, 0x1E60000000000000),
        (0x7FE0000000000000, 0x0000000000000000, 0x7FF0000000000000, 0x7FF0000000000000),
        (0x5FEFFFFFFFFFFFFF, 0x5FEFFFFFFFFFFFFF, 0x7FF0000000000000, 0x7FF0000000000000),
        (0xFFF0000000000000, 0x0000000000000000, 0x7FF0000000000000, 0x7FF0000000000000),
        (0xFFF0000000000000, 0x7FF0000000000000, 0x7FF0000000000000, 0x7FF0000000000000),
        (0x7FF0000000000000, 0x7FF0000000000001, 0x7FF8000000000000, 0x7FF8000000000000),
        (0xFFFFFFFFFFFFFFFF, 0x3FF0000000000000, 0x7FF8000000000000, 0x7FF8000000000000),
    ),
)


class PairTest(unittest.TestCase):
    def test_plain_pairs_zeros_infinities_nan(self):
        for f in (SINGLE, DOUBLE):
            for row in PLAIN:
                a, b = in_format(f, row[0]), in_format(f, row[1])
                for op in (0, 1, 2):
                    with self.subTest(f=f, op=op, a=row[0], b=row[1]):
                        self.assertEqual(pair(f, op, a, b), [0] + in_format(f, row[2 + op]))

    def test_each_step_is_rounded_by_itself(self):
        for f, op, a, b, want in ROUNDED:
            with self.subTest(f=f, op=op, a=a, b=b):
                self.assertEqual(pair(f, op, list(a), list(b)), [0] + list(want))

    def test_pairs_stand_one_after_another(self):
        a = doubles(1.0, 2.0, 0.0, 1.0, 2.0, 0.0)
        b = doubles(3.0, 4.0, 0.0, 1.0, 0.0, 5.0)
        self.assertEqual(pair(DOUBLE, 0, a, b), [0] + doubles(-5.0, 10.0, -1.0, 0.0, 0.0, 10.0))
        self.assertEqual(pair(DOUBLE, 1, a, b), [0] + doubles(11.0, 2.0, 1.0, 0.0, 0.0, -10.0))

    def test_every_edge_meets_every_edge(self):
        for f in (SINGLE, DOUBLE):
            first, second = hardware.edge_pairs(f)
            a = [bits for both in zip(first, second) for bits in both]
            b = a[-254:] + a[:-254]
            for op in (0, 1, 2):
                with self.subTest(f=f, op=op):
                    self.assertEqual(pair(f, op, a, b), hardware.pair_row(f, op, a, b))

    def test_other_ops_are_refused(self):
        for f in (SINGLE, DOUBLE):
            for op in (3, 4, 8) + hardware.REFUSED_OPS:
                with self.subTest(f=f, op=op):
                    self.assertEqual(pair(f, op, [0, 0], [0, hardware.ONE[f]]), [-2])


class LookTest(unittest.TestCase):
    def test_sizes(self):
        for f in (SINGLE, DOUBLE):
            for x1, x2, squares, size in LOOKS[f]:
                with self.subTest(f=f, x1=hex(x1), x2=hex(x2)):
                    self.assertEqual(look(f, 0, [x1, x2]), [0, squares])
                    self.assertEqual(look(f, 1, [x1, x2]), [0, size])

    def test_one_number_for_each_pair(self):
        x = singles(3.0, 4.0, 0.0, -1.0, 5.0, 12.0)
        self.assertEqual(look(SINGLE, 0, x), [0] + singles(25.0, 1.0, 169.0))
        self.assertEqual(look(SINGLE, 1, x), [0] + singles(5.0, 1.0, 13.0))

    def test_every_edge_beside_every_edge(self):
        for f in (SINGLE, DOUBLE):
            x = [bits for both in zip(*hardware.edge_pairs(f)) for bits in both]
            for op in (0, 1):
                with self.subTest(f=f, op=op):
                    self.assertEqual(look(f, op, x), hardware.look_row(f, op, x))

    def test_other_ops_are_refused(self):
        for f in (SINGLE, DOUBLE):
            for op in (2, 3, 8) + hardware.REFUSED_OPS:
                with self.subTest(f=f, op=op):
                    self.assertEqual(look(f, op, [0, hardware.ONE[f]]), [-2])


if __name__ == "__main__":
    unittest.main()

"""Every call at the bounds of what may be handed in: the longest rows, the greatest numbers, rows of no numbers."""

import unittest

from bitsignals import desk
from tests import hardware, reckoned
from tests.test_conversions import whole_by_machine
from tests.test_split_join import told

TOP_WORD = 4294967295
LOWEST = -2147483648
HIGHEST = 2147483647
LONG = 16000
LONG_SINGLES = 30000
LONGEST = 8192


class LongestRowsTest(unittest.TestCase):
    """Rows as long as the interface lets them be: of numbers of all sorts, and of the greatest bits alone."""

    def assert_answer(self, call, given, want):
        answer = getattr(desk, call)(*given)
        self.assertTrue(answer == want, call)

    def rows(self, f, length):
        return [hardware.mixed(f, length, 51), [hardware.TOP[f]] * length]

    def test_calls_by_op(self):
        for f in (0, 1):
            for row in self.rows(f, LONG):
                other = row[::-1]
                for call, wanted in (("each", hardware.each_row), ("pair", hardware.pair_row)):
                    self.assert_answer(call, (f, 0, row, other), wanted(f, 0, row, other))
                for call, wanted in (("one", hardware.one_row), ("look", hardware.look_row)):
                    self.assert_answer(call, (f, 1, row), wanted(f, 1, row))

    def test_conversions(self):
        for row in self.rows(0, LONG_SINGLES):
            self.assert_answer("wide", (row,), [0] + reckoned.bits_of(1, reckoned.numbers(0, row)))
        for row in self.rows(1, LONG):
            self.assert_answer("narrow", (row,), [0] + reckoned.bits_of(0, reckoned.numbers(1, row)))
        for f in (0, 1):
            for row in self.rows(f, LONG):
                self.assert_answer("whole", (f, 3, row), [0] + [whole_by_machine(f, 3, bits) for bits in row])
            row = [LOWEST, HIGHEST] * (LONG_SINGLES // 2)
            self.assert_answer("from_of", (f, row), [0] + [hardware.to_bits(f, float(number)) for number in row])

    def test_sums_and_products(self):
        for f in (0, 1):
            for row in self.rows(f, LONG):
                self.assert_answer("dot", (f, row, row), reckoned.dot(f, row, row))
                sizes = [abs(number) for number in reckoned.numbers(f, row)]
                most = max([size for size in sizes if size == size], default=0.0)
                place = sizes.index(most) if most > 0 else 0
                self.assert_answer("peak", (f, row), [place, hardware.to_bits(f, most)])
                for gain in (hardware.ONE[f] + 3, hardware.TOP[f]):
                    want = hardware.each_row(f, 2, row, [gain] * LONG)
                    self.assert_answer("away", (f, gain, row), want)
            # Each is 4 or 2 times the greatest number: beyond it.
            great = [hardware.INFINITY[f] - 1] * LONG
            self.assert_answer("dot", (f, great, [hardware.ONE[f]] * LONG), [0, hardware.INFINITY[f]])

    def test_windows_and_tones(self):
        for f in (0, 1):
            for row in self.rows(f, LONGEST):
                self.assert_answer("window", (f, 2, row), reckoned.window(f, 2, row))
            self.assert_answer("tone", (f, LONGEST, TOP_WORD), reckoned.tone(f, LONGEST, TOP_WORD))

    def test_transforms(self):
        for f in (0, 1):
            for row in self.rows(f, LONG):
                self.assert_answer("turn", (f, 1, row), reckoned.turn(f, 1, row))
            row = hardware.ordinary(f, LONG, 52)
            self.assert_answer("turn", (f, 0, row), reckoned.turn(f, 0, row))
            for row in self.rows(f, LONGEST):
                self.assert_answer("half", (f, row), reckoned.half(f, row))
            for row in self.rows(f, LONGEST + 2):
                self.assert_answer("unhalf", (f, LONGEST, row), reckoned.unhalf(f, LONGEST, row))

    def test_products_of_rows(self):
        for f in (0, 1):
            for row in self.rows(f, LONGEST):
                self.assert_answer("around", (f, 1, row, row), reckoned.around(f, 1, row, row))
            one = [hardware.ONE[f]]
            row = hardware.ordinary(f, LONGEST, 53)
            self.assert_answer("conv", (f, LONGEST, row, one), reckoned.conv(f, LONGEST, row, one))
            self.assert_answer("conv", (f, LONGEST, one * LONG, one * LONG), [-2])

    def test_streams(self):
        for row in self.rows(0, LONG_SINGLES):
            given = (256, 256, TOP_WORD, row[:4096], row, row, row)
            self.assert_answer("stream", given, reckoned.stream(*given))
        self.assert_answer("stream", (256, 256, TOP_WORD, row, row, row, row), [-2])

    def test_parts(self):
        for f in (0, 1):
            for row in self.rows(f, LONG):
                self.assert_answer("split", (f, row), [0] + told(f, row[0::2]) + told(f, row[1::2]))
                both = [bits for pair in zip(row, row[::-1]) for bits in pair]
                self.assert_answer("join", (f, row, row[::-1]), [0] + told(f, both))


class NoNumbersTest(unittest.TestCase):
    def test_rows_of_no_numbers(self):
        for f in (0, 1):
            for call, given, want in (
                ("each", (f, 0, [], []), [0]), ("one", (f, 0, []), [0]), ("pair", (f, 0, [], []), [0]),
                ("look", (f, 0, []), [0]), ("wide", ([],), [0]), ("narrow", ([],), [0]), ("whole", (f, 0, []), [0]),
                ("from_of", (f, []), [0]), ("dot", (f, [], []), [0, 0]), ("peak", (f, []), [0, 0]),
                ("away", (f, hardware.TOP[f], []), [0]), ("split", (f, []), [0]), ("join", (f, [], []), [0]),
                ("window", (f, 0, []), [-2]), ("conv", (f, 1, [], []), [-2]), ("stream", (1, 1, 1, [], [], [], []), [-2]),
                ("stream", (1, 1, 0, [0], [], [], []), [0, 0, 0, 0, 0, 0, 0]),
            ):
                with self.subTest(call=call, f=f):
                    self.assertEqual(getattr(desk, call)(*given), want)


class RefusalsTest(unittest.TestCase):
    """Every refusal that the document names: -2, alone."""

    def test_ops_hows_kinds_ways(self):
        for f in (0, 1):
            one = [hardware.ONE[f], 0]
            for call, first, rows in (
                ("each", 8, (one, one)), ("one", 9, (one,)), ("pair", 3, (one, one)), ("look", 2, (one,)),
                ("whole", 4, (one,)), ("window", 3, (one,)), ("turn", 2, (one,)), ("around", 2, (one, one)),
            ):
                self.assertNotEqual(getattr(desk, call)(f, first - 1, *rows), [-2])
                for op in (first, first + 1, 4294967294, TOP_WORD):
                    with self.subTest(call=call, f=f, op=op):
                        self.assertEqual(getattr(desk, call)(f, op, *rows), [-2])

    def test_lengths(self):
        for f in (0, 1):
            one = [hardware.ONE[f]]
            for n in (0, 8193, TOP_WORD):
                self.assertEqual(desk.tone(f, n, 0), [-2])
            for n in (0, 8193, 16000):
                self.assertEqual(desk.window(f, 0, one * n), [-2])
            for n, la, lb in ((1, 0, 1), (1, 1, 0), (1, 2, 1), (1, 1, 2), (8192, 8192, 2), (8192, 4097, 4097)):
                self.assertEqual(desk.conv(f, n, one * la, one * lb), [-2])

    def test_starts_and_pushes(self):
        one = [hardware.ONE[0]]
        for up, down, count in ((0, 1, 1), (1, 0, 1), (257, 1, 1), (1, 257, 1), (TOP_WORD, 1, 1), (1, TOP_WORD, 1),
                                (1, 1, 0), (1, 1, 4097), (0, 0, 0)):
            self.assertEqual(desk.stream(up, down, TOP_WORD, one * count, one, one, one), [-2])
        self.assertEqual(desk.stream(256, 1, 255, one, one, [], one), [0, -2, 0, 0, 0, -2, 0])


if __name__ == "__main__":
    unittest.main()

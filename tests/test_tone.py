"""Promise 13: tone, with the parts of a turn of 10 and 11."""

import math
import unittest

from bitsignals.desk import tone
from tests import hardware, reckoned

ROOT = (0x3F3504F3, 0x3FE6A09E667F3BCD)
LENGTHS = (1, 2, 3, 4, 5, 6, 7, 8, 9, 12, 24, 100)


def quarters(f, *wanted):
    """Written by hand: '1', '0', '-1', 'r' (the root of a half), '-r'."""
    sign = hardware.SIGN_BIT[f]
    bits = {"1": hardware.ONE[f], "0": 0, "-1": hardware.ONE[f] | sign, "r": ROOT[f], "-r": ROOT[f] | sign}
    return [0] + [bits[word] for word in wanted]


class ToneTest(unittest.TestCase):
    def test_quarters_and_eighths(self):
        for f in (0, 1):
            for n, k, words in (
                (1, 0, "1 0"),
                (1, 1, "1 0"),
                (1, 4294967295, "1 0"),
                (2, 0, "1 0 1 0"),
                (2, 1, "1 0 -1 0"),
                (2, 2, "1 0 1 0"),
                (2, 4294967295, "1 0 -1 0"),
                (4, 0, "1 0 1 0 1 0 1 0"),
                (4, 1, "1 0 0 1 -1 0 0 -1"),
                (4, 2, "1 0 -1 0 1 0 -1 0"),
                (4, 3, "1 0 0 -1 -1 0 0 1"),
                (4, 4294967295, "1 0 0 -1 -1 0 0 1"),
                (8, 1, "1 0 r r 0 1 -r r -1 0 -r -r 0 -1 r -r"),
                (8, 7, "1 0 r -r 0 -1 -r -r -1 0 -r r 0 1 r r"),
                (8, 2, "1 0 0 1 -1 0 0 -1 1 0 0 1 -1 0 0 -1"),
                (3, 0, "1 0 1 0 1 0"),
                (3, 3, "1 0 1 0 1 0"),
            ):
                with self.subTest(f=f, n=n, k=k):
                    self.assertEqual(tone(f, n, k), quarters(f, *words.split()))

    def test_written_bits(self):
        # A third of a turn: 4 j = 1 n + 1, so r is 1: (-s, c) of a third of a quarter, an angle of 30 degrees.
        self.assertEqual(tone(1, 3, 1), [
            0, 0x3FF0000000000000, 0, 0xBFDFFFFFFFFFFFFF, 0x3FEBB67AE8584CAB, 0xBFDFFFFFFFFFFFFF, 0xBFEBB67AE8584CAB])
        self.assertEqual(tone(0, 3, 1), [0, 0x3F800000, 0, 0xBF000000, 0x3F5DB3D7, 0xBF000000, 0xBF5DB3D7])

    def test_as_reckoned_apart(self):
        for f in (0, 1):
            for n in LENGTHS:
                for k in (0, 1, 2, n - 1, n, n + 1, 3 * n + 2, 65537, 2147483648, 4294967294, 4294967295):
                    with self.subTest(f=f, n=n, k=k):
                        self.assertEqual(tone(f, n, k), reckoned.tone(f, n, k))

    def test_near_the_real_cosines_and_sines(self):
        for n in LENGTHS + (1000, 8191, 8192):
            answer = reckoned.numbers(1, tone(1, n, 1)[1:])
            self.assertEqual(len(answer), 2 * n)
            for i in range(n):
                self.assertAlmostEqual(answer[2 * i], math.cos(2 * math.pi * i / n), delta=2e-15)
                self.assertAlmostEqual(answer[2 * i + 1], math.sin(2 * math.pi * i / n), delta=2e-15)

    def test_the_longest(self):
        for f in (0, 1):
            for n, k in ((8192, 0), (8192, 1), (8192, 2), (8192, 8191), (8192, 8192), (8192, 8193),
                         (8192, 4294967295), (8191, 4294967295)):
                with self.subTest(f=f, n=n, k=k):
                    self.assertTrue(tone(f, n, k) == reckoned.tone(f, n, k))

    def test_other_lengths_are_refused(self):
        for f in (0, 1):
            for n in (0, 8193, 8194, 16384, 65536, 2147483648, 4294967295):
                for k in (0, 1, 4294967295):
                    with self.subTest(f=f, n=n, k=k):
                        self.assertEqual(tone(f, n, k), [-2])


if __name__ == "__main__":
    unittest.main()

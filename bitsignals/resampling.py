"""Streams of singles, resampled by up / down."""

from bitsignals.plain import Plain
from bitsignals.spread import Spread, all_below
from bitsignals.sums import sum_by_groups

SINGLE = 0
# A sum's products are added in groups of so many.
GROUP_OF_SINGLES = 4
MOST_TAPS = 4096
GREATEST_RATE = 256
# 2 to the 50: 4096 products of two sizes below it can't add up beyond the greatest number.
TAME_SINGLE = 0x58800000
# No single has a place below 2 to the minus so many.
SINGLE_PLACES = 149


def can_start(up, down, taps):
    return 1 <= up <= GREATEST_RATE and 1 <= down <= GREATEST_RATE and 1 <= len(taps) <= MOST_TAPS


class Stream:
    """What has come and gone so far. The i-th that goes is due behind the number i down / up, without its rest."""

    def __init__(self, up, down, taps):
        self.up = up
        self.down = down
        self.phases = phases_of(up, taps)
        self.tame_taps = all_below(SINGLE, taps, TAME_SINGLE)
        # What came last, as many as a sum reaches back beyond its last number: zeros at first.
        self.before = [0] * (len(self.phases[0]) - 1)
        self.come_count = 0
        self.gone_count = 0

    def due(self, row):
        """How many numbers go when the row comes."""
        come = self.come_count + len(row)
        # The least number gone that, times down, isn't below come times up.
        return (come * self.up + self.down - 1) // self.down - self.gone_count

    def push(self, row):
        """The numbers that go when the row comes."""
        line = self.before + row
        numbers = self.arithmetic_for(line)
        taken = [numbers.taken(a) for a in line]
        factors = [factors_of(numbers, phase) for phase in self.phases]
        gone = []
        for i in range(self.gone_count, self.gone_count + self.due(row)):
            last, f = divmod(i * self.down, self.up)
            gone.append(numbers.given(one_sum(numbers, factors[f], taken, last - self.come_count)))
        self.gone_count = self.gone_count + len(gone)
        self.come_count = self.come_count + len(row)
        self.before = line[len(row):]
        return gone

    def arithmetic_for(self, line):
        tame = self.tame_taps and all_below(SINGLE, line, TAME_SINGLE)
        return Spread(SINGLE, SINGLE_PLACES) if tame else Plain(SINGLE)


def factors_of(numbers, phase):
    return [numbers.factor(tap) for tap in phase]


def one_sum(numbers, factors, line, start):
    """The sum of the factors' products with the numbers of the line, as many from start on, the last one first."""
    reach = line[start:start + len(factors)]
    products = [numbers.times(a, factor) for a, factor in zip(reach[::-1], factors)]
    return sum_by_groups(numbers, GROUP_OF_SINGLES, products)


def phases_of(up, taps):
    """For each f below up the taps f, f + up, f + 2 up ..., all filled with zeros to the same length."""
    length = (len(taps) + up - 1) // up
    length = (length + 3) // 4 * 4
    phases = []
    for f in range(up):
        phase = taps[f::up]
        phases.append(phase + [0] * (length - len(phase)))
    return phases

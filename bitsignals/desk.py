"""The calls: each answers a list, a number and then a row, or a refusal alone."""

from bitsignals.arithmetic import OF_ONE, OF_TWO, multiply
from bitsignals.conversions import WAYS_TO_WHOLE, from_whole, narrowed, to_whole, widened
from bitsignals.floats import told
from bitsignals.pairs import OF_ONE_PAIR, OF_TWO_PAIRS
from bitsignals.products import WAYS_AROUND, fits, product_around, product_of_rows
from bitsignals.resampling import Stream, can_start
from bitsignals.spectra import WAYS, from_half_spectrum, half_spectrum, in_pairs, one_after_another, turned
from bitsignals.sums import greatest_size, sum_of_products
from bitsignals.turns import multiples_of_part
from bitsignals.windows import WEIGHTS, windowed

DONE = 0
REFUSED = -2
LONGEST = 8192


def each(f, op, a, b):
    if op >= len(OF_TWO):
        return [REFUSED]
    step = OF_TWO[op]
    return [DONE] + [step(f, x, y) for x, y in zip(a, b)]


def one(f, op, a):
    if op >= len(OF_ONE):
        return [REFUSED]
    step = OF_ONE[op]
    return [DONE] + [step(f, x) for x in a]


def pair(f, op, a, b):
    if op >= len(OF_TWO_PAIRS):
        return [REFUSED]
    step = OF_TWO_PAIRS[op]
    answer = [DONE]
    for i in range(0, len(a), 2):
        answer.extend(step(f, a[i], a[i + 1], b[i], b[i + 1]))
    return answer


def look(f, op, x):
    if op >= len(OF_ONE_PAIR):
        return [REFUSED]
    step = OF_ONE_PAIR[op]
    return [DONE] + [step(f, x[i], x[i + 1]) for i in range(0, len(x), 2)]


def wide(x):
    return [DONE] + [widened(a) for a in x]


def narrow(x):
    return [DONE] + [narrowed(a) for a in x]


def whole(f, how, x):
    if how >= WAYS_TO_WHOLE:
        return [REFUSED]
    return [DONE] + [to_whole(f, how, a) for a in x]


def from_of(f, x):
    return [DONE] + [from_whole(f, k) for k in x]


def dot(f, a, b):
    return [DONE, sum_of_products(f, a, b)]


def peak(f, x):
    return list(greatest_size(f, x))


def away(f, gain, x):
    return [DONE] + [multiply(f, a, gain) for a in x]


def window(f, kind, x):
    if kind >= len(WEIGHTS) or not 1 <= len(x) <= LONGEST:
        return [REFUSED]
    return [DONE] + windowed(f, kind, x)


def tone(f, n, k):
    if not 1 <= n <= LONGEST:
        return [REFUSED]
    return [DONE] + one_after_another(multiples_of_part(f, n, k))


def turn(f, way, x):
    if way >= WAYS:
        return [REFUSED]
    return [DONE] + one_after_another(turned(f, way, in_pairs(x)))


def half(f, x):
    return [DONE] + one_after_another(half_spectrum(f, x))


def unhalf(f, n, x):
    return [DONE] + from_half_spectrum(f, n, in_pairs(x))


def around(f, op, a, b):
    if op >= WAYS_AROUND:
        return [REFUSED]
    return [DONE] + product_around(f, op, a, b)


def conv(f, n, a, b):
    if not fits(n, a, b):
        return [REFUSED]
    return [DONE] + product_of_rows(f, n, a, b)


def stream(up, down, most, taps, x, y, z):
    if not can_start(up, down, taps):
        return [REFUSED]
    running = Stream(up, down, taps)
    answer = [DONE]
    for row in (x, y, z):
        if running.due(row) > most:
            answer.extend([REFUSED, 0])
        else:
            gone = running.push(row)
            answer.extend([len(gone), len(gone)])
            answer.extend(gone)
    return answer


def split(f, x):
    return [DONE] + [told(f, a) for a in x[0::2]] + [told(f, a) for a in x[1::2]]


def join(f, a, b):
    answer = [DONE]
    for x, y in zip(a, b):
        answer.extend([told(f, x), told(f, y)])
    return answer

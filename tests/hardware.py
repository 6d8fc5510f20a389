"""The machine's own floating numbers, a second opinion on the program's bits.

Python's float is a double. A single's sum, product, quotient or root, taken in doubles and then
rounded to a single, is the single that one rounding gives: 53 places are at least twice 24 and 2.
"""

import math
import struct

NAN = (0x7FC00000, 0x7FF8000000000000)
INFINITY = (0x7F800000, 0x7FF0000000000000)
SIGN_BIT = (0x80000000, 0x8000000000000000)
ONE = (0x3F800000, 0x3FF0000000000000)
TOP = (4294967295, 18446744073709551615)
NUMBER_CODES = ("<f", "<d")
BITS_CODES = ("<I", "<Q")

# Ops that every call refuses; a call's first refused op is named where it is tested.
REFUSED_OPS = (9, 10, 16, 255, 256, 65536, 2147483647, 2147483648, 4294967294, 4294967295)

EDGES = (
    (
        0x00000000, 0x00000001, 0x00000002, 0x00000003, 0x00400000, 0x007FFFFF, 0x00800000, 0x00800001,
        0x00FFFFFF, 0x01000000, 0x1F800000, 0x20000000, 0x33800000, 0x33800001, 0x337FFFFF, 0x34000000,
        0x3EFFFFFF, 0x3F000000, 0x3F000001, 0x3F7FFFFF, 0x3F800000, 0x3F800001, 0x3F800002, 0x3FC00000,
        0x40000000, 0x40200000, 0x40400000, 0x40600000, 0x4AFFFFFF, 0x4B000000, 0x4B7FFFFF, 0x5F800000,
        0x73000000, 0x72FFFFFF, 0x7E800000, 0x7F000000, 0x7F7FFFFE, 0x7F7FFFFF, 0x7F800000,
        0x7F800001, 0x7FA00000, 0x7FC00000, 0x7FC12345, 0x7FFFFFFF,
    ),
    (
        0x0000000000000000, 0x0000000000000001, 0x0000000000000002, 0x0000000000000003, 0x0008000000000000,
        0x000FFFFFFFFFFFFF, 0x0010000000000000, 0x0010000000000001, 0x001FFFFFFFFFFFFF, 0x0020000000000000,
        0x1FF0000000000000, 0x2000000000000000, 0x3CA0000000000000, 0x3CA0000000000001, 0x3C9FFFFFFFFFFFFF,
        0x3CB0000000000000, 0x3FDFFFFFFFFFFFFF, 0x3FE0000000000000, 0x3FE0000000000001, 0x3FEFFFFFFFFFFFFF,
        0x3FF0000000000000, 0x3FF0000000000001, 0x3FF0000000000002, 0x3FF8000000000000, 0x4000000000000000,
        0x4004000000000000, 0x4008000000000000, 0x400C000000000000, 0x432FFFFFFFFFFFFF, 0x4330000000000000,
        0x433FFFFFFFFFFFFF, 0x5FF0000000000000, 0x7C90000000000000, 0x7C8FFFFFFFFFFFFF, 0x7FD0000000000000,
        0x7FE0000000000000, 0x7FEFFFFFFFFFFFFE, 0x7FEFFFFFFFFFFFFF, 0x7FF0000000000000, 0x7FF0000000000001,
        0x7FF4000000000000, 0x7FF8000000000000, 0x7FF8000012345678, 0x7FFFFFFFFFFFFFFF,
    ),
)


def edges(f):
    """The numbers at the edges of the format, with both signs."""
    return list(EDGES[f]) + [bits | SIGN_BIT[f] for bits in EDGES[f]]


def edge_pairs(f):
    """Rows a and b in which every edge meets every edge."""
    a = [x for x in edges(f) for y in edges(f)]
    b = [y for x in edges(f) for y in edges(f)]
    return a, b


def mixed(f, count, seed):
    """A row that is the same on every machine: any bits, numbers near 1, small and large whole ones, edges."""
    rows = []
    state = seed
    some = edges(f)
    for i in range(count):
        state = (state * 6364136223846793005 + 1442695040888963407) % 18446744073709551616
        word = state ^ (state >> 29)
        draw = (word * 0x9E3779B97F4A7C15 >> 32) & TOP[f]
        if i % 4 == 0:
            rows.append(draw)
        elif i % 4 == 1:
            rows.append(near_one(f, draw, word >> 60))
        elif i % 4 == 2:
            rows.append(to_bits(f, float((draw & 0xFFFFF) - 0x80000) / (1 << (word >> 61))))
        else:
            rows.append(some[draw % len(some)])
    return rows


def near_one(f, draw, power):
    fraction = (23, 52)[f]
    sign = draw & SIGN_BIT[f]
    return sign + ONE[f] + ((power - 8) << fraction) + (draw & ((1 << fraction) - 1))


def ordinary(f, count, seed):
    """Numbers of both signs, near 1 in size, with all their places."""
    return [near_one(f, bits, (bits >> 7) % 16) for bits in mixed(f, 4 * count, seed)[0::4]]


def zeros(f, count, seed):
    """Zeros of both signs in no order."""
    return [((bits >> 9) & 1) * SIGN_BIT[f] for bits in mixed(f, 4 * count, seed)[0::4]]


def tiny(f, count, seed):
    """Denormals, zeros and their neighbours, of both signs."""
    return [(bits & SIGN_BIT[f]) | ((bits >> 8) % (1 << (bits % (26, 55)[f]))) for bits in mixed(f, 4 * count, seed)[0::4]]


def great(f, count, seed):
    """Numbers whose sums may grow beyond the greatest."""
    fraction = (23, 52)[f]
    return [(bits & SIGN_BIT[f]) + INFINITY[f] - ((1 + bits % 3) << fraction) + ((bits >> 5) & ((1 << fraction) - 1))
            for bits in mixed(f, 4 * count, seed)[0::4]]


def rarely_endless(f, count, seed):
    """Ordinary numbers, and an infinity or a NaN among them here and there."""
    row = ordinary(f, count, seed)
    for i in range(seed % 5, count, 11):
        row[i] = (INFINITY[f], INFINITY[f] | SIGN_BIT[f], INFINITY[f] | 5, TOP[f])[(seed + i) % 4]
    return row


# Rows of every sort: each takes f, how many numbers, and a seed.
SORTS = (ordinary, mixed, zeros, tiny, great, rarely_endless)


def to_number(f, bits):
    return struct.unpack(NUMBER_CODES[f], struct.pack(BITS_CODES[f], bits))[0]


def to_bits(f, number):
    if math.isnan(number):
        return NAN[f]
    try:
        packed = struct.pack(NUMBER_CODES[f], number)
    except OverflowError:
        return INFINITY[f] | (SIGN_BIT[f] if number < 0 else 0)
    return struct.unpack(BITS_CODES[f], packed)[0]


def divided(x, y):
    if y != 0:
        return x / y
    if x == 0 or math.isnan(x):
        return math.nan
    return math.copysign(math.inf, x) * math.copysign(1.0, y)


def rooted(x):
    return math.nan if x < 0 else math.sqrt(x)


def made_whole(x, way):
    return x if math.isinf(x) or math.isnan(x) else math.copysign(float(way(x)), x)


WAYS_OF_TWO = (
    lambda x, y: x + y,
    lambda x, y: x - y,
    lambda x, y: x * y,
    divided,
    lambda x, y: x if x < y else y,
    lambda x, y: x if y < x else y,
    math.copysign,
    lambda x, y: 1.0 if x < y else 0.0,
)

WAYS_OF_ONE = (
    lambda x: -x,
    abs,
    rooted,
    lambda x: made_whole(x, round),
    lambda x: made_whole(x, math.floor),
    lambda x: made_whole(x, math.ceil),
    lambda x: made_whole(x, math.trunc),
    lambda x: divided(1.0, x),
    lambda x: x * x,
)


def two(f, op, a, b):
    return to_bits(f, WAYS_OF_TWO[op](to_number(f, a), to_number(f, b)))


def one(f, op, a):
    return to_bits(f, WAYS_OF_ONE[op](to_number(f, a)))


def each_row(f, op, a, b):
    return [0] + [two(f, op, x, y) for x, y in zip(a, b)]


def one_row(f, op, a):
    return [0] + [one(f, op, x) for x in a]


def pair_row(f, op, a, b):
    answer = [0]
    for i in range(0, len(a), 2):
        answer.extend(pair_of(f, op, a[i], a[i + 1], b[i], b[i + 1]))
    return answer


def pair_of(f, op, a1, a2, b1, b2):
    if op > 0:
        b2 = one(f, 0, b2)
    first = two(f, 1, two(f, 2, a1, b1), two(f, 2, a2, b2))
    second = two(f, 0, two(f, 2, a1, b2), two(f, 2, a2, b1))
    if op == 2:
        size = squares(f, b1, b2)
        return two(f, 3, first, size), two(f, 3, second, size)
    return first, second


def squares(f, x1, x2):
    return two(f, 0, two(f, 2, x1, x1), two(f, 2, x2, x2))


def look_row(f, op, x):
    sizes = [squares(f, x[i], x[i + 1]) for i in range(0, len(x), 2)]
    return [0] + (sizes if op == 0 else [one(f, 2, size) for size in sizes])

"""For the tests: the table of formats, apart from the program's own reckoning, and what holds of every call."""

import copy
import math
import random
import struct
from fractions import Fraction

WIDTHS = (8, 16, 32, 64)
T, F32, F64 = 2048, 204800, 212992
FLOATS = {F32: (">I", ">f"), F64: (">Q", ">d")}

# Arguments of both signs far beyond every width, the ends of the interface's range among them.
FAR_RAWS = (-1, -2, -(2 ** 31), -(2 ** 63), -(2 ** 64), -(2 ** 65), 2 ** 64, 2 ** 64 + 1, 2 ** 65, 10 ** 100, -(10 ** 100))


def every_format():
    """Each format's name and code: 1 of t, 124 of q, 124 of u, 2 floats."""
    table = {"t": 2048, "f32": 204800, "f64": 212992}
    for letter, start in (("q", 65536), ("u", 131072)):
        for width in WIDTHS:
            for point in range(width + 1):
                table["%s%d_%d" % (letter, width, point)] = start + width * 256 + point
    return table


# Codes that are no format's, each near one that is, or far from all.
WRONG_CODES = (
    0, 1, 8, 32, 64, 2047, 2049, 2056, 4096, 8192, 16384,
    -1, -6, -2048, -67584, -133120, -204800, -212992, -2147483648, -2147483647,
    65536, 65536 + 8, 65536 + 7 * 256, 65536 + 9 * 256, 65536 + 8 * 256 + 9, 65536 + 8 * 256 + 255,
    65536 + 16 * 256 + 17, 65536 + 24 * 256, 65536 + 32 * 256 + 33, 65536 + 64 * 256 + 65, 65536 + 65 * 256,
    65536 + 128 * 256, 65536 + 255 * 256 + 255,
    131072, 131072 + 7 * 256, 131072 + 8 * 256 + 9, 131072 + 16 * 256 + 17, 131072 + 32 * 256 + 33,
    131072 + 64 * 256 + 65, 131072 + 128 * 256,
    196608, 196608 + 8 * 256, 196608 + 16 * 256, 204799, 204801, 204800 + 32, 212991, 212993, 212992 + 64,
    262144 + 8 * 256, 262144 + 32 * 256, 65536 * 256 + 65536 + 8 * 256, 2147483646, 2147483647,
    2 ** 31 + 2048, 2 ** 32 + 2048, 2 ** 32 + 204800, 2 ** 64 + 65536 + 2048, -(2 ** 32) + 2048, 10 ** 100, -(10 ** 100),
)


def q(width, point):
    return 65536 + width * 256 + point


def u(width, point):
    return 131072 + width * 256 + point


def width_of(code):
    return code // 256 % 256


def as_real(code, raw):
    """The float with these bits, whatever they say."""
    whole, real = FLOATS[code]
    return struct.unpack(real, struct.pack(whole, raw))[0]


def is_good(code, raw):
    if not 0 <= raw < 2 ** width_of(code):
        return False
    if code == T:
        return raw < 2
    if code in FLOATS:
        real = as_real(code, raw)
        return math.isfinite(real) and not (real == 0 and math.copysign(1, real) < 0)
    return True


def value(code, raw):
    """What a good raw is worth."""
    if code == T:
        return Fraction(raw)
    if code in FLOATS:
        return Fraction(as_real(code, raw))
    width = width_of(code)
    if code < 131072 and raw >= 2 ** (width - 1):
        raw -= 2 ** width
    return Fraction(raw, 2 ** (code % 256))


def raws_about(code):
    """Raws at and just outside all edges of the format, and some between, good ones and others."""
    width = width_of(code)
    edges = {0, 2 ** (width - 1), 2 ** width}
    if code in FLOATS:
        fraction = {32: 23, 64: 52}[width]
        infinity = 2 ** (width - 1) - 2 ** fraction
        for size in (0, 2 ** (fraction - 1), 2 ** fraction, 2 * 2 ** fraction, infinity // 2, infinity, infinity + 2 ** (fraction - 1)):
            edges.update((size, size + 2 ** (width - 1)))
    found = {edge + step for edge in edges for step in range(-3, 4)}
    source = random.Random(code)
    found.update(source.randrange(2 ** width) for _ in range(20))
    return sorted(found)


def good_raws_about(code):
    return [raw for raw in raws_about(code) if is_good(code, raw)]


def as_bytes(text):
    return list(text.encode("latin-1"))


def check_plain_answers(case, call, *arguments):
    """Whole numbers in a list are given back, nothing handed in is changed, and nothing is kept until the next time."""
    handed = copy.deepcopy(arguments)
    first = call(*handed)
    case.assertEqual(handed, arguments)
    case.assertIs(type(first), list)
    for number in first:
        case.assertIs(type(number), int)
    kept = list(first)
    first.append(99)
    case.assertEqual(call(*handed), kept)
    case.assertEqual(handed, arguments)

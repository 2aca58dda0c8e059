"""For the tests: the table of formats, apart from the program's own reckoning, and what holds of every call."""

import copy
import math
import random
import struct
from fractions import Fraction

WIDTHS = (8, 16, 32, 64)
T, F32, F64 = 2048, 204800, 212992
FLOATS = {F32: (">I", ">f"), F64: (">Q", ">d")}

# Arguments of both signs far beyond every width, the ends of the interface's range among them.
FAR_RAWS = (-1, -2, -(2 ** 31), -(2 ** 63), -(2 ** 64), -(2 ** 65), 2 ** 64, 2 ** 64 + 1, 2 ** 65, 10 ** 100, -(10 ** 100))


def every_format():
    """Each format's name and code: 1 of t, 124 of q, 124 of u, 2 floats."""
    table = {"t": 2048, "f32": 204800, "f64": 212992}
    for letter, start in (("q", 65536), ("u", 131072)):
        for width in WIDTHS:
            for point in range(width + 1):
                table["%s%d_%d" % (letter, width, point)] = start + width * 256 + point
    return table


# Codes that are no format's, each near one that is, or far from all.
WRONG_CODES = (
    0, 1, 8, 32, 64, 2047, 2049, 2056, 4096, 8192, 16384,
    -1, -6, -2048, -67584, -133120, -204800, -212992, -2147483648, -2147483647,
    65536, 65536 + 8, 65536 + 7 * 256, 65536 + 9 * 256, 65536 + 8 * 256 + 9, 65536 + 8 * 256 + 255,
    65536 + 16 * 256 + 17, 65536 + 24 * 256, 65536 + 32 * 256 + 33, 65536 + 64 * 256 + 65, 65536 + 65 * 256,
    65536 + 128 * 256, 65536 + 255 * 256 + 255,
    131072, 131072 + 7 * 256, 131072 + 8 * 256 + 9, 131072 + 16 * 256 + 17, 131072 + 32 * 256 + 33,
    131072 + 64 * 256 + 65, 131072 + 128 * 256,
    196608, 196608 + 8 * 256, 196608 + 16 * 256, 204799, 204801, 204800 + 32, 212991, 212993, 212992 + 64,
    262144 + 8 * 256, 262144 + 32 * 256, 65536 * 256 + 65536 + 8 * 256, 2147483646, 2147483647,
    2 ** 31 + 2048, 2 ** 32 + 2048, 2 ** 32 + 204800, 2 ** 64 + 65536 + 2048, -(2 ** 32) + 2048, 10 ** 100, -(10 ** 100),
)


def q(width, point):
    return 65536 + width * 256 + point


def u(width, point):
    return 131072 + width * 256 + point


def width_of(code):
    return code // 256 % 256


def as_real(code, raw):
    """The float with these bits, whatever they say."""
    whole, real = FLOATS[code]
    return struct.unpack(real, struct.pack(whole, raw))[0]


def is_good(code, raw):
    if not 0 <= raw < 2 ** width_of(code):
        return False
    if code == T:
        return raw < 2
    if code in FLOATS:
        real = as_real(code, raw)
        return math.isfinite(real) and not (real == 0 and math.copysign(1, real) < 0)
    return True


def value(code, raw):
    """What a good raw is worth."""
    if code == T:
        return Fraction(raw)
    if code in FLOATS:
        return Fraction(as_real(code, raw))
    width = width_of(code)
    if code < 131072 and raw >= 2 ** (width - 1):
        raw -= 2 ** width
    return Fraction(raw, 2 ** (code % 256))


def raws_about(code):
    """Raws at and just outside all edges of the format, and some between, good ones and others."""
    width = width_of(code)
    edges = {0, 2 ** (width - 1), 2 ** width}
    if code in FLOATS:
        fraction = {32: 23, 64: 52}[width]
        infinity = 2 ** (width - 1) - 2 ** fraction
        for size in (0, 2 ** (fraction - 1), 2 ** fraction, 2 * 2 ** fraction, infinity // 2, infinity, infinity + 2 ** (fraction - 1)):
            edges.update((size, size + 2 ** (width - 1)))
    found = {edge + step for edge in edges for step in range(-3, 4)}
    source = random.Random(code)
    found.update(source.randrange(2 ** width) for _ in range(20))
    return sorted(found)


def good_raws_about(code):
    return [raw for raw in raws_about(code) if is_good(code, raw)]


# Formats of each kind, of each width, with the point at either end and between.
SOME_FORMATS = (
    T, q(8, 0), q(8, 4), q(8, 8), u(8, 0), u(8, 5), u(8, 8), q(16, 8), u(16, 16), q(32, 0), q(32, 16), u(32, 31),
    q(64, 0), q(64, 64), u(64, 0), u(64, 32), F32, F64,
)
ALL_HOWS = (0, 1, 2, 3, 4, 8, 9, 10, 11, 12)
WRONG_HOWS = (-1, -4, -8, -16, -2147483648, 5, 6, 7, 13, 14, 15, 16, 17, 24, 32, 256, 2147483647, 10 ** 50, -(10 ** 50))


def hows_of(code):
    return ALL_HOWS[5:] if code in FLOATS else ALL_HOWS


def wrong_hows_of(code):
    return WRONG_HOWS + (ALL_HOWS[:5] if code in FLOATS else ())


class Exactly:
    """A rational that is to be put."""

    def __init__(self, x):
        self.x = Fraction(x)

    def against(self, other):
        """-1, 0 or 1, as this is less than the other, the same or more."""
        return (self.x > other) - (self.x < other)

    def floor_of_times(self, scale):
        return math.floor(self.x * scale)


class RootOf:
    """The root of a rational not below 0."""

    def __init__(self, x):
        self.square = Fraction(x)

    def against(self, other):
        if other < 0:
            return 1
        return (self.square > other * other) - (self.square < other * other)

    def floor_of_times(self, scale):
        return math.isqrt(math.floor(self.square * scale * scale))


def float_at(code, index):
    """The float that stands this many places above 0 or, if that's below 0, below it; the place past the last is there, too."""
    infinity = {F32: 0x7F800000, F64: 0x7FF0000000000000}[code]
    if abs(index) == infinity:
        size = Fraction(2 ** {F32: 128, F64: 1024}[code])
    else:
        size = value(code, abs(index))
    return size if index >= 0 else -size


def index_below(amount, code):
    """The place of the greatest float not above the amount, which lies within the places there are."""
    low, high = {F32: (-0x7F800000, 0x7F800000), F64: (-0x7FF0000000000000, 0x7FF0000000000000)}[code]
    while high - low > 1:
        middle = (low + high) // 2
        if amount.against(float_at(code, middle)) >= 0:
            low = middle
        else:
            high = middle
    return low


def choose(amount, mode, low, at):
    """Which of low and low + 1 the amount is rounded to; at tells what a place is worth."""
    if amount.against(at(low)) == 0 or mode == 3:
        return low
    if mode == 2:
        return low + 1
    if mode == 1:
        return low if amount.against(0) > 0 else low + 1
    side = amount.against((at(low) + at(low + 1)) / 2)
    if side != 0:
        return low if side < 0 else low + 1
    if mode == 0:
        return low if low % 2 == 0 else low + 1
    return low + 1 if amount.against(0) > 0 else low


def put_by_search(amount, code, how):
    """Flags and raw of what is put, found by looking for the two neighbours of an amount."""
    if code == T:
        return [0, 0 if amount.against(0) == 0 else 1]
    if code in FLOATS:
        return put_float_by_search(amount, code, how % 8)
    width, scale = width_of(code), 2 ** (code % 256)
    least, greatest = (-(2 ** (width - 1)), 2 ** (width - 1) - 1) if code < 131072 else (0, 2 ** width - 1)
    steps = choose(amount, how % 8, amount.floor_of_times(scale), lambda k: Fraction(k, scale))
    flags = 0 if amount.against(Fraction(steps, scale)) == 0 else 1
    if least <= steps <= greatest:
        return [flags, steps % 2 ** width]
    if how < 8:
        return [flags + 4, steps % 2 ** width]
    return [5, (least if steps < least else greatest) % 2 ** width]


def put_float_by_search(amount, code, mode):
    sign, infinity = 2 ** (width_of(code) - 1), {F32: 0x7F800000, F64: 0x7FF0000000000000}[code]
    if amount.against(float_at(code, infinity)) >= 0:
        return [5, infinity - 1]
    if amount.against(float_at(code, -infinity)) <= 0:
        return [5, sign + infinity - 1]
    index = choose(amount, mode, index_below(amount, code), lambda place: float_at(code, place))
    if abs(index) == infinity:
        return [5, infinity - 1 if index > 0 else sign + infinity - 1]
    flags = 0 if amount.against(float_at(code, index)) == 0 else 1
    return [flags, index if index >= 0 else sign - index]


def as_bytes(text):
    return list(text.encode("latin-1"))


def check_plain_answers(case, call, *arguments):
    """Whole numbers in a list are given back, nothing handed in is changed, and nothing is kept until the next time."""
    handed = copy.deepcopy(arguments)
    first = call(*handed)
    case.assertEqual(handed, arguments)
    case.assertIs(type(first), list)
    for number in first:
        case.assertIs(type(number), int)
    kept = list(first)
    first.append(99)
    case.assertEqual(call(*handed), kept)
    case.assertEqual(handed, arguments)

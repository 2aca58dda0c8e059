"""Promise 16: short."""

import math
import random
import unittest
from fractions import Fraction

from exactraws.formats import ends, put, read, short

from helper import F32, F64, FLOATS, T, WRONG_CODES
from helper import as_bytes, as_real, check_plain_answers, every_format, float_at, good_raws_about, is_good, q, raws_about, u, value


def ten_to(exponent):
    return Fraction(10) ** exponent


def numbers_within(low, high, closed, count):
    """All d and e with d of so many digits, the last not 0, and d 10^e between low and high, they too if closed."""
    found = []
    for exponent in range(first_place(low) - count, first_place(high) + 2):
        start, stop = math.ceil(low / ten_to(exponent)), math.floor(high / ten_to(exponent))
        for d in range(max(start, 10 ** (count - 1)), min(stop, 10 ** count - 1) + 1):
            if d % 10 != 0 and (closed or low < d * ten_to(exponent) < high):
                found.append((d, exponent))
    return found


def first_place(x):
    return len(str(math.floor(x))) - 1 if x >= 1 else -len(str(math.ceil(1 / x)))


def short_by_search(code, raw):
    """By going through all numbers between the middles to both neighbours."""
    sign = 2 ** (31 if code == F32 else 63)
    size = raw % sign
    if size == 0:
        return "0e0"
    x = float_at(code, size)
    low, high = (x + float_at(code, size - 1)) / 2, (x + float_at(code, size + 1)) / 2
    count = 1
    while not numbers_within(low, high, size % 2 == 0, count):
        count += 1
    found = numbers_within(low, high, size % 2 == 0, count)
    d, exponent = min(found, key=lambda pair: (abs(pair[0] * ten_to(pair[1]) - x), pair[0] % 2))
    digits = str(d)
    behind = "." + digits[1:] if len(digits) > 1 else ""
    return "%s%s%se%d" % ("-" if raw > size else "", digits[0], behind, exponent + len(digits) - 1)


def parts(text):
    """A text's sign, its digits without needless noughts, and the power of ten behind them."""
    sign = text.startswith("-")
    mantissa, _, exponent = text.lstrip("-").partition("e")
    whole, _, behind = mantissa.partition(".")
    digits = (whole + behind).lstrip("0")
    return sign, digits.rstrip("0"), int(exponent or 0) - len(behind) + len(digits) - len(digits.rstrip("0"))


def raw_of(code, x):
    top, bottom = Fraction(x).as_integer_ratio()
    return put(top, bottom, code, 8)[2]


class Short(unittest.TestCase):
    def check(self, code, raw, text):
        self.assertEqual(short(code, raw), [0] + as_bytes(text), (code, hex(raw), text))

    def test_written_out(self):
        for code in (F32, F64):
            for x, text in (
                (0, "0e0"), (1, "1e0"), (-1, "-1e0"), (2, "2e0"), (9, "9e0"), (10, "1e1"), (11, "1.1e1"), (99, "9.9e1"), (100, "1e2"), (-120, "-1.2e2"),
                (0.5, "5e-1"), (0.25, "2.5e-1"), (-0.125, "-1.25e-1"), (Fraction(-1, 400), "-2.5e-3"), (Fraction(1, 10), "1e-1"),
                (Fraction(1, 3), {F32: "3.3333334e-1", F64: "3.333333333333333e-1"}[code]), (1024, "1.024e3"), (123456, "1.23456e5"),
                (10 ** 10, "1e10"), (2 ** 20, "1.048576e6"), (Fraction(1, 10 ** 12), "1e-12"), (1000000, "1e6"),
            ):
                self.check(code, raw_of(code, x), text)

    def test_f32_at_its_edges(self):
        for raw, text in (
            (1, "1e-45"), (2, "3e-45"), (3, "4e-45"), (4, "6e-45"), (5, "7e-45"), (6, "8e-45"), (7, "1e-44"), (0x80000001, "-1e-45"),
            (0x007FFFFF, "1.1754942e-38"), (0x00800000, "1.1754944e-38"), (0x00800001, "1.1754945e-38"), (0x807FFFFF, "-1.1754942e-38"),
            (0x7F7FFFFF, "3.4028235e38"), (0xFF7FFFFF, "-3.4028235e38"), (0x7F7FFFFE, "3.4028233e38"), (0x7F000000, "1.7014118e38"),
            (0x4B800000, "1.6777216e7"), (0x4B800001, "1.6777218e7"),
        ):
            self.check(F32, raw, text)

    def test_f64_at_its_edges(self):
        for raw, text in (
            (1, "5e-324"), (2, "1e-323"), (3, "1.5e-323"), (2 ** 63 + 1, "-5e-324"),
            (2 ** 52 - 1, "2.225073858507201e-308"), (2 ** 52, "2.2250738585072014e-308"), (2 ** 52 + 1, "2.225073858507202e-308"),
            (0x7FEFFFFFFFFFFFFF, "1.7976931348623157e308"), (0xFFEFFFFFFFFFFFFF, "-1.7976931348623157e308"),
            (0x4340000000000000, "9.007199254740992e15"), (0x44B52D02C7E14AF6, "1e23"), (0x44B52D02C7E14AF7, "1.0000000000000001e23"),
        ):
            self.check(F64, raw, text)

    def test_of_two_as_near_the_even_one(self):
        # In f32 a step is a quarter there, in f64 too: .25 lies between .2 and .3, .75 between .7 and .8.
        for whole, after in ((2097152, "25"), (2097153, "75"), (3000001, "25"), (3000000, "75")):
            x = Fraction("%d.%s" % (whole, after))
            digits = "%d%s" % (whole, "2" if after == "25" else "8")
            self.check(F32, raw_of(F32, x), "%s.%se6" % (digits[0], digits[1:]))
            self.check(F32, raw_of(F32, -x), "-%s.%se6" % (digits[0], digits[1:]))
        self.check(F64, raw_of(F64, 1125899906842624.25), "1.1258999068426242e15")
        self.check(F64, raw_of(F64, 1125899906842624.75), "1.1258999068426248e15")

    def test_neighbours_at_unlike_distances(self):
        # All powers of 2: below them the next raw is half as far away as above.
        for code, first, count in ((F32, 23, 254), (F64, 52, 2046)):
            for exponent in list(range(1, count + 1))[::1 if code == F32 else 9]:
                raw = exponent << first
                self.check(code, raw, short_by_search(code, raw))
        # 2^-44 and 9007199254740992 among them; here the nearest of so many digits below isn't read as it again.
        self.check(F64, raw_of(F64, 2.0 ** -44), "5.684341886080802e-14")

    def test_every_bit_alone_and_beside_it(self):
        for code in FLOATS:
            for bit in range(31 if code == F32 else 63):
                for raw in (2 ** bit - 1, 2 ** bit, 2 ** bit + 1):
                    if is_good(code, raw):
                        self.check(code, raw, short_by_search(code, raw))

    def test_raws_about_all_edges_by_search(self):
        for code in FLOATS:
            for raw in good_raws_about(code):
                self.check(code, raw, short_by_search(code, raw))

    def test_small_raws_by_search(self):
        for code in FLOATS:
            for raw in range(300):
                self.check(code, raw, short_by_search(code, raw))

    def test_powers_of_ten(self):
        for code, powers in ((F32, range(-44, 39)), (F64, range(-323, 309))):
            for power in powers:
                for sign in (1, -1):
                    self.check(code, raw_of(code, sign * ten_to(power)), "%s1e%d" % ("-" if sign < 0 else "", power))

    def test_any_raws_by_search(self):
        source = random.Random(16)
        for code in FLOATS:
            for _ in range(300):
                raw = source.randrange(2 ** (32 if code == F32 else 64))
                if is_good(code, raw):
                    self.check(code, raw, short_by_search(code, raw))

    def test_f64_as_python_has_it(self):
        source = random.Random(17)
        for _ in range(3000):
            raw = source.randrange(2 ** 64)
            if is_good(F64, raw):
                text = bytes(short(F64, raw)[1:]).decode()
                self.assertEqual(parts(text), parts(repr(as_real(F64, raw))), hex(raw))

    def test_read_as_it_again(self):
        source = random.Random(18)
        for code in FLOATS:
            raws = good_raws_about(code) + ends(code)[1:] + [source.randrange(2 ** (32 if code == F32 else 64)) for _ in range(500)]
            for raw in raws:
                if is_good(code, raw):
                    text = short(code, raw)[1:]
                    answer = read(code, 8, text)
                    self.assertIn(answer, ([0, 0, raw], [0, 1, raw]), (code, raw, bytes(text)))
                    self.assertRegex(bytes(text).decode(), r"\A(0e0|-?[1-9](\.[0-9]*[1-9])?e(0|-?[1-9][0-9]*))\Z")

    def test_no_floats(self):
        for code in every_format().values():
            if code not in FLOATS:
                for raw in raws_about(code):
                    self.assertEqual(short(code, raw), [-9] if is_good(code, raw) else [-1], (code, raw))

    def test_wrong_codes_and_raws(self):
        for code in WRONG_CODES:
            for raw in (0, 1, -1, 2 ** 65):
                self.assertEqual(short(code, raw), [-1], (code, raw))
        for code, raw in ((F32, 0x80000000), (F32, 0x7F800000), (F32, 0xFF800000), (F32, 0x7FC00000), (F32, -1), (F32, 2 ** 32),
                          (F64, 2 ** 63), (F64, 0x7FF0000000000000), (F64, 0xFFF0000000000000), (F64, -1), (F64, 2 ** 64), (F64, 2 ** 65),
                          (T, 2), (T, -1), (q(8, 0), 256), (q(8, 0), -1), (u(64, 0), 2 ** 64)):
            self.assertEqual(short(code, raw), [-1], (code, raw))

    def test_what_is_worth_nought(self):
        self.check(F32, 0, "0e0")
        self.check(F64, 0, "0e0")
        self.assertEqual(value(F64, 0), 0)

    def test_plain_answers(self):
        for arguments in ((F32, 0x3DCCCCCD), (F64, 5), (F64, 2 ** 63 + 5), (F64, 2 ** 63), (F32, 0), (T, 1), (T, 2), (0, 0)):
            check_plain_answers(self, short, *arguments)


if __name__ == "__main__":
    unittest.main()

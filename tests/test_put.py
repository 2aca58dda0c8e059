"""Promise 11: put."""

import random
import unittest
from fractions import Fraction

from exactraws.formats import put

from helper import ALL_HOWS, F32, F64, FLOATS, SOME_FORMATS, T, WRONG_CODES, Exactly
from helper import check_plain_answers, good_raws_about, hows_of, put_by_search, q, u, value, wrong_hows_of

LIMIT = 10 ** 700


class Put(unittest.TestCase):
    def check_modes(self, a, b, f, answers, ends_number=1):
        for mode, answer in enumerate(answers):
            self.assertEqual(put(a, b, f, mode + 8 * ends_number), [0, *answer], (a, b, f, mode, ends_number))

    def test_both_signs(self):
        self.check_modes(7, 2, q(8, 0), ((1, 4), (1, 3), (1, 4), (1, 3), (1, 4)))
        self.check_modes(-7, 2, q(8, 0), ((1, 252), (1, 253), (1, 253), (1, 252), (1, 252)))
        self.check_modes(5, 2, q(8, 0), ((1, 2), (1, 2), (1, 3), (1, 2), (1, 3)))
        self.check_modes(-1, 3, q(8, 0), ((1, 0), (1, 0), (1, 0), (1, 255), (1, 0)))
        self.check_modes(2, 3, u(8, 8), ((1, 171), (1, 170), (1, 171), (1, 170), (1, 171)))
        self.check_modes(-2, 3, T, ((0, 1),) * 5)
        self.check_modes(0, 3, T, ((0, 0),) * 5)

    def test_terms_need_not_be_the_lowest(self):
        for factor in (1, 6, 10 ** 300, 10 ** 699):
            self.assertEqual(put(-3 * factor, 2 * factor, q(8, 1), 0), [0, 0, 253])
            self.assertEqual(put(-3 * factor, 2 * factor, F32, 8), [0, 0, 0xBFC00000])
            self.assertEqual(put(0, factor, F64, 10), [0, 0, 0])
            self.assertEqual(put(0, factor, u(8, 0), 3), [0, 0, 0])

    def test_b_not_above_nought(self):
        for f in SOME_FORMATS:
            for a in (0, 1, -1, 10 ** 699):
                for b in (0, -1, -2, -(10 ** 699), -LIMIT, -(2 ** 2400)):
                    self.assertEqual(put(a, b, f, 8), [-1], (a, b, f))

    def test_sizes_at_the_limit(self):
        self.assertEqual(put(LIMIT - 1, LIMIT - 1, q(8, 0), 0), [0, 0, 1])
        self.assertEqual(put(1 - LIMIT, LIMIT - 1, q(8, 0), 0), [0, 0, 255])
        self.assertEqual(put(LIMIT - 1, 1, u(8, 0), 0), [0, 4, (LIMIT - 1) % 256])
        self.assertEqual(put(1 - LIMIT, 1, F64, 8), [0, 5, 0xFFEFFFFFFFFFFFFF])
        self.assertEqual(put(1, LIMIT - 1, F64, 10), [0, 1, 1])
        for a, b in ((LIMIT, 1), (-LIMIT, 1), (1, LIMIT), (LIMIT, LIMIT), (LIMIT + 1, 1), (-LIMIT - 1, 1), (1, LIMIT + 1),
                     (2 ** 2400, 1), (-(2 ** 2400), 1), (1, 2 ** 2400), (2 ** 2400, 2 ** 2400), (0, LIMIT)):
            for f in (T, q(8, 0), F64):
                self.assertEqual(put(a, b, f, 8), [-1])

    def test_floats_below_the_least_normal(self):
        for f, sign, least in ((F32, 2 ** 31, 2 ** 149), (F64, 2 ** 63, 2 ** 1074)):
            self.check_modes(1, least, f, ((0, 1),) * 5)
            self.check_modes(-1, least, f, ((0, sign + 1),) * 5)
            self.check_modes(1, 2 * least, f, ((1, 0), (1, 0), (1, 1), (1, 0), (1, 1)))
            self.check_modes(-1, 2 * least, f, ((1, 0), (1, 0), (1, 0), (1, sign + 1), (1, sign + 1)))
            self.check_modes(3, 2 * least, f, ((1, 2), (1, 1), (1, 2), (1, 1), (1, 2)))
            self.check_modes(1, 3 * least, f, ((1, 0), (1, 0), (1, 1), (1, 0), (1, 0)))
            self.check_modes(-2, 3 * least, f, ((1, sign + 1), (1, 0), (1, 0), (1, sign + 1), (1, sign + 1)))
            self.check_modes(1, 10 ** 650, f, ((1, 0), (1, 0), (1, 1), (1, 0), (1, 0)))
            self.check_modes(-1, 10 ** 650, f, ((1, 0), (1, 0), (1, 0), (1, sign + 1), (1, 0)))

    def test_floats_next_to_the_least_normal(self):
        for f, bits, least in ((F32, 23, 2 ** 149), (F64, 52, 2 ** 1074)):
            normal = 2 ** bits
            self.check_modes(normal, least, f, ((0, normal),) * 5)
            self.check_modes(normal - 1, least, f, ((0, normal - 1),) * 5)
            self.check_modes(2 * normal - 1, 2 * least, f, ((1, normal), (1, normal - 1), (1, normal), (1, normal - 1), (1, normal)))
            self.check_modes(2 * normal + 1, 2 * least, f, ((1, normal), (1, normal), (1, normal + 1), (1, normal), (1, normal + 1)))

    def test_floats_past_the_greatest_end(self):
        for f, sign, power, step in ((F32, 2 ** 31, 2 ** 128, 2 ** 104), (F64, 2 ** 63, 2 ** 1024, 2 ** 971)):
            raw = sign - 1 - {F32: 2 ** 23, F64: 2 ** 52}[f]
            self.assertEqual(value(f, raw), power - step)
            self.check_modes(power - step, 1, f, ((0, raw),) * 5)
            self.check_modes(2 * power - step - 1, 2, f, ((1, raw), (1, raw), (5, raw), (1, raw), (1, raw)))
            self.check_modes(2 * power - step, 2, f, ((5, raw), (1, raw), (5, raw), (1, raw), (5, raw)))
            self.check_modes(step - 2 * power, 2, f, ((5, sign + raw), (1, sign + raw), (1, sign + raw), (5, sign + raw), (5, sign + raw)))
            self.check_modes(power - 1, 1, f, ((5, raw), (1, raw), (5, raw), (1, raw), (5, raw)))
            self.check_modes(power, 1, f, ((5, raw),) * 5)
            self.check_modes(-power, 1, f, ((5, sign + raw),) * 5)
            self.check_modes(10 ** 699, 3, f, ((5, raw),) * 5)

    def test_every_worth_is_put_as_its_raw(self):
        for f in SOME_FORMATS:
            for raw in good_raws_about(f):
                a, b = value(f, raw).as_integer_ratio()
                for how in hows_of(f):
                    self.assertEqual(put(a, b, f, how), [0, 0, raw], (f, raw, how))

    def test_beside_raws_and_middles_by_search(self):
        source = random.Random(11)
        for f in SOME_FORMATS:
            for raw in good_raws_about(f)[::4 if f in FLOATS else 2]:
                for shift in (Fraction(0), Fraction(1, 10 ** 90), Fraction(-1, 10 ** 90), Fraction(1, 10 ** 330), Fraction(-1, 7)):
                    x = value(f, raw)
                    step = Fraction(1, 2 ** 149 if f == F32 else 2 ** 1074 if f == F64 else 2 ** (f % 256))
                    x += source.choice((step / 2, -step / 2, step / 3, x / 2 ** 25, -x / 2 ** 54, Fraction(0))) + shift
                    a, b = x.as_integer_ratio()
                    for how in hows_of(f):
                        expected = [0] + put_by_search(Exactly(x), f, how) if max(abs(a), b) < LIMIT else [-1]
                        self.assertEqual(put(a, b, f, how), expected, (f, raw, shift, how))

    def test_any_quotient_by_search(self):
        source = random.Random(12)
        for f in SOME_FORMATS:
            for _ in range(40):
                a = source.randrange(-(2 ** source.randrange(1, 2320)), 2 ** source.randrange(1, 2320))
                b = source.randrange(1, 2 ** source.randrange(1, 2320))
                how = source.choice(hows_of(f))
                self.assertEqual(put(a, b, f, how), [0] + put_by_search(Exactly(Fraction(a, b)), f, how), (a, b, f, how))

    def test_wrong_hows_and_codes(self):
        for f in SOME_FORMATS:
            for how in wrong_hows_of(f):
                self.assertEqual(put(1, 2, f, how), [-1], (f, how))
        for code in WRONG_CODES:
            for how in ALL_HOWS:
                self.assertEqual(put(1, 2, code, how), [-1], (code, how))

    def test_plain_answers(self):
        for arguments in ((1, 3, F64, 8), (-7, 2, u(8, 0), 3), (1, 0, F32, 10), (2 ** 2400, 1, T, 2), (5, 1, T, 2), (0, 0, 0, 0)):
            check_plain_answers(self, put, *arguments)


if __name__ == "__main__":
    unittest.main()

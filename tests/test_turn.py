"""Promise 8: turn, and with it how a rational is put."""

import unittest

from exactraws.formats import ends, good, turn

from helper import ALL_HOWS, F32, F64, FLOATS, SOME_FORMATS, T, WRONG_CODES, Exactly
from helper import check_plain_answers, good_raws_about, hows_of, put_by_search, q, u, value, wrong_hows_of

ONE = 0x3FF0000000000000


class Turn(unittest.TestCase):
    def check_modes(self, c, r, f, answers, ends_number=1):
        """The answers of modes 0 to 4, as pairs of flags and raw."""
        for mode, answer in enumerate(answers):
            self.assertEqual(turn(c, r, f, mode + 8 * ends_number), [0, *answer], (c, r, f, mode, ends_number))

    def test_exact(self):
        for how in ALL_HOWS:
            self.assertEqual(turn(q(8, 4), 248, q(16, 8), how), [0, 0, 65408])
            self.assertEqual(turn(u(8, 0), 7, q(8, 4), how), [0, 0, 112])
            self.assertEqual(turn(F64, ONE, u(8, 7), how), [0, 0, 128])
        for how in ALL_HOWS[5:]:
            self.assertEqual(turn(q(8, 1), 255, F32, how), [0, 0, 0xBF000000])
            self.assertEqual(turn(F32, 1, F64, how), [0, 0, 0x36A0000000000000])
            self.assertEqual(turn(F64, 0x36A0000000000000, F32, how), [0, 0, 1])

    def test_into_t(self):
        for how in ALL_HOWS:
            for code, raw, answer in ((T, 0, 0), (T, 1, 1), (q(8, 0), 0, 0), (q(8, 0), 255, 1), (q(64, 64), 1, 1), (F64, 1, 1),
                                      (F64, 2 ** 63 + 1, 1), (F32, 0, 0), (F32, 0xFF7FFFFF, 1), (u(8, 0), 200, 1)):
                self.assertEqual(turn(code, raw, T, how), [0, 0, answer], (code, raw, how))

    def test_between_two_raws(self):
        # 1.25, 1.75 and the same below 0, into whole numbers.
        self.check_modes(q(8, 2), 5, q(8, 0), ((1, 1), (1, 1), (1, 2), (1, 1), (1, 1)))
        self.check_modes(q(8, 2), 7, q(8, 0), ((1, 2), (1, 1), (1, 2), (1, 1), (1, 2)))
        self.check_modes(q(8, 2), 251, q(8, 0), ((1, 255), (1, 255), (1, 255), (1, 254), (1, 255)))
        self.check_modes(q(8, 2), 249, q(8, 0), ((1, 254), (1, 255), (1, 255), (1, 254), (1, 254)))

    def test_ties_of_both_signs(self):
        # 0.5, 1.5, 2.5 and the same below 0.
        self.check_modes(q(8, 1), 1, q(8, 0), ((1, 0), (1, 0), (1, 1), (1, 0), (1, 1)))
        self.check_modes(q(8, 1), 3, q(8, 0), ((1, 2), (1, 1), (1, 2), (1, 1), (1, 2)))
        self.check_modes(q(8, 1), 5, q(8, 0), ((1, 2), (1, 2), (1, 3), (1, 2), (1, 3)))
        self.check_modes(q(8, 1), 255, q(8, 0), ((1, 0), (1, 0), (1, 0), (1, 255), (1, 255)))
        self.check_modes(q(8, 1), 253, q(8, 0), ((1, 254), (1, 255), (1, 255), (1, 254), (1, 254)))
        self.check_modes(q(8, 1), 251, q(8, 0), ((1, 254), (1, 254), (1, 254), (1, 253), (1, 253)))

    def test_past_an_end(self):
        # 128 and -129 just past the ends, 127.5 and -128.5 by rounding alone.
        self.check_modes(q(16, 0), 128, q(8, 0), ((5, 127),) * 5)
        self.check_modes(q(16, 0), 128, q(8, 0), ((4, 128),) * 5, 0)
        self.check_modes(q(16, 0), 65536 - 129, q(8, 0), ((5, 128),) * 5)
        self.check_modes(q(16, 0), 65536 - 129, q(8, 0), ((4, 127),) * 5, 0)
        self.check_modes(q(16, 1), 255, q(8, 0), ((5, 127), (1, 127), (5, 127), (1, 127), (5, 127)))
        self.check_modes(q(16, 1), 255, q(8, 0), ((5, 128), (1, 127), (5, 128), (1, 127), (5, 128)), 0)
        self.check_modes(q(16, 1), 65536 - 257, q(8, 0), ((1, 128), (1, 128), (1, 128), (5, 128), (5, 128)))
        self.check_modes(q(16, 1), 65536 - 257, q(8, 0), ((1, 128), (1, 128), (1, 128), (5, 127), (5, 127)), 0)

    def test_below_nought_without_a_sign(self):
        self.check_modes(q(8, 2), 255, u(8, 0), ((1, 0), (1, 0), (1, 0), (5, 0), (1, 0)))
        self.check_modes(q(8, 2), 255, u(8, 0), ((1, 0), (1, 0), (1, 0), (5, 255), (1, 0)), 0)
        self.check_modes(q(8, 0), 255, u(8, 0), ((5, 0),) * 5)
        self.check_modes(q(8, 0), 255, u(8, 0), ((4, 255),) * 5, 0)
        self.check_modes(q(8, 0), 128, u(8, 8), ((4, 0),) * 5, 0)

    def test_far_past_an_end(self):
        self.check_modes(F64, 0x7FEFFFFFFFFFFFFF, q(8, 8), ((5, 127),) * 5)
        self.check_modes(F64, 0xFFEFFFFFFFFFFFFF, q(8, 8), ((5, 128),) * 5)
        self.check_modes(F64, 0xFFEFFFFFFFFFFFFF, u(64, 64), ((5, 0),) * 5)
        self.check_modes(F64, 0x7FEFFFFFFFFFFFFF, u(64, 0), ((4, 0),) * 5, 0)
        self.check_modes(F64, 0x7FEFFFFFFFFFFFFF, F32, ((5, 0x7F7FFFFF),) * 5)
        self.check_modes(F64, 0xFFEFFFFFFFFFFFFF, F32, ((5, 0xFF7FFFFF),) * 5)
        # 2^128 itself needs no rounding, so toward 0 doesn't bring it back within the ends.
        self.check_modes(F64, 0x47F0000000000000, F32, ((5, 0x7F7FFFFF),) * 5)
        self.check_modes(F64, 0xC7F0000000000000, F32, ((5, 0xFF7FFFFF),) * 5)

    def test_floats_at_the_greatest_end(self):
        # A quarter, a half and three quarters of a step beyond the greatest of f32.
        self.check_modes(F64, 0x47EFFFFFE8000000, F32,
                         ((1, 0x7F7FFFFF), (1, 0x7F7FFFFF), (5, 0x7F7FFFFF), (1, 0x7F7FFFFF), (1, 0x7F7FFFFF)))
        self.check_modes(F64, 0x47EFFFFFF0000000, F32,
                         ((5, 0x7F7FFFFF), (1, 0x7F7FFFFF), (5, 0x7F7FFFFF), (1, 0x7F7FFFFF), (5, 0x7F7FFFFF)))
        self.check_modes(F64, 0xC7EFFFFFF0000000, F32,
                         ((5, 0xFF7FFFFF), (1, 0xFF7FFFFF), (1, 0xFF7FFFFF), (5, 0xFF7FFFFF), (5, 0xFF7FFFFF)))
        self.check_modes(F64, 0xC7EFFFFFF8000000, F32,
                         ((5, 0xFF7FFFFF), (1, 0xFF7FFFFF), (1, 0xFF7FFFFF), (5, 0xFF7FFFFF), (5, 0xFF7FFFFF)))

    def test_floats_below_the_least_normal(self):
        # 2^-150: half of the least, a tie between 0 and 1.
        self.check_modes(F64, 0x3690000000000000, F32, ((1, 0), (1, 0), (1, 1), (1, 0), (1, 1)))
        self.check_modes(F64, 0xB690000000000000, F32, ((1, 0), (1, 0), (1, 0), (1, 0x80000001), (1, 0x80000001)))
        self.check_modes(F64, 0x3690000000000001, F32, ((1, 1), (1, 0), (1, 1), (1, 0), (1, 1)))
        self.check_modes(F64, 0xB68FFFFFFFFFFFFF, F32, ((1, 0), (1, 0), (1, 0), (1, 0x80000001), (1, 0)))
        self.check_modes(F64, 1, F32, ((1, 0), (1, 0), (1, 1), (1, 0), (1, 0)))
        self.check_modes(F64, 2 ** 63 + 1, F32, ((1, 0), (1, 0), (1, 0), (1, 0x80000001), (1, 0)))
        # 1.5 times 2^-149.
        self.check_modes(F64, 0x36A8000000000000, F32, ((1, 2), (1, 1), (1, 2), (1, 1), (1, 2)))
        # Just short of the least normal.
        self.check_modes(F64, 0x380FFFFFFFFFFFFF, F32,
                         ((1, 0x00800000), (1, 0x007FFFFF), (1, 0x00800000), (1, 0x007FFFFF), (1, 0x00800000)))

    def test_floats_that_round_up_to_two_to_a_power(self):
        self.check_modes(F64, 0x3FFFFFFFFFFFFFFF, F32,
                         ((1, 0x40000000), (1, 0x3FFFFFFF), (1, 0x40000000), (1, 0x3FFFFFFF), (1, 0x40000000)))
        self.check_modes(u(64, 0), 2 ** 64 - 1, F64, (
            (1, 0x43F0000000000000), (1, 0x43EFFFFFFFFFFFFF), (1, 0x43F0000000000000),
            (1, 0x43EFFFFFFFFFFFFF), (1, 0x43F0000000000000)))

    def test_floats_ties(self):
        # 2^53 + 1 and 2^53 + 3.
        self.check_modes(u(64, 0), 2 ** 53 + 1, F64, (
            (1, 0x4340000000000000), (1, 0x4340000000000000), (1, 0x4340000000000001),
            (1, 0x4340000000000000), (1, 0x4340000000000001)))
        self.check_modes(q(64, 0), 2 ** 64 - 2 ** 53 - 3, F64, (
            (1, 0xC340000000000002), (1, 0xC340000000000001), (1, 0xC340000000000001),
            (1, 0xC340000000000002), (1, 0xC340000000000002)))

    def test_nought_has_no_sign(self):
        for f in (F32, F64):
            for how in ALL_HOWS[5:]:
                self.assertEqual(turn(q(8, 0), 0, f, how), [0, 0, 0])
                self.assertEqual(turn(F64, 0, f, how), [0, 0, 0])

    def test_formats_of_every_kind_by_search(self):
        for c in SOME_FORMATS:
            for f in SOME_FORMATS:
                raws = good_raws_about(c)
                for place, r in enumerate(raws):
                    # Searching among f64's places is slow: there one mode for each raw.
                    hows = hows_of(f)[place % 5:][:1] if f in FLOATS else hows_of(f)
                    for how in hows:
                        expected = [0] + put_by_search(Exactly(value(c, r)), f, how)
                        self.assertEqual(turn(c, r, f, how), expected, (c, r, f, how))

    def test_f64_into_f32_in_every_mode_by_search(self):
        for r in good_raws_about(F64):
            for exponent in (0x3690, 0x3800, 0x3FF0, 0x47E0):
                raw = r % 2 ** 52 + exponent * 2 ** 48
                for sign in (0, 2 ** 63):
                    for how in hows_of(F32):
                        expected = [0] + put_by_search(Exactly(value(F64, raw + sign)), F32, how)
                        self.assertEqual(turn(F64, raw + sign, F32, how), expected, (hex(raw + sign), how))

    def test_into_the_same_format(self):
        for c in SOME_FORMATS:
            for r in good_raws_about(c):
                for how in hows_of(c):
                    self.assertEqual(turn(c, r, c, how), [0, 0, r], (c, r, how))

    def test_raws_put_are_good(self):
        for c in (q(8, 4), F32, F64):
            for f in SOME_FORMATS:
                for r in good_raws_about(c) + ends(c)[1:]:
                    for how in hows_of(f):
                        self.assertEqual(good(f, turn(c, r, f, how)[2]), [0, 1], (c, r, f, how))

    def test_wrong_hows(self):
        for f in SOME_FORMATS:
            for how in wrong_hows_of(f):
                self.assertEqual(turn(T, 1, f, how), [-1], (f, how))

    def test_wrong_codes_and_raws(self):
        for code in WRONG_CODES:
            self.assertEqual(turn(code, 0, T, 8), [-1], code)
            self.assertEqual(turn(T, 0, code, 8), [-1], code)
        for code, raw in ((T, 2), (T, -1), (q(8, 0), 256), (q(8, 0), -1), (u(64, 0), 2 ** 64), (F32, 0x80000000), (F32, 0x7F800000),
                          (F32, 0xFFC00000), (F64, 2 ** 63), (F64, 0xFFF0000000000000), (F64, -1), (F64, 2 ** 65)):
            for f in (T, q(8, 0), F32):
                self.assertEqual(turn(code, raw, f, 8), [-1], (code, raw, f))

    def test_plain_answers(self):
        for arguments in ((T, 1, F64, 8), (q(8, 4), 255, u(8, 0), 3), (F64, 5, F32, 10), (F64, 5, T, 2), (T, 0, F32, 0), (0, 0, 0, 0)):
            check_plain_answers(self, turn, *arguments)


if __name__ == "__main__":
    unittest.main()

"""Promise 10: root."""

import math
import random
import unittest

from exactraws.formats import ends, root

from helper import ALL_HOWS, F32, F64, FLOATS, SOME_FORMATS, T, WRONG_CODES, RootOf
from helper import check_plain_answers, good_raws_about, hows_of, put_by_search, q, u, value, wrong_hows_of


def expected(c, r, f, how):
    x = value(c, r)
    if x < 0:
        return [0, 2, 0]
    return [0] + put_by_search(RootOf(x), f, how)


class Root(unittest.TestCase):
    def check_modes(self, c, r, f, answers, ends_number=1):
        for mode, answer in enumerate(answers):
            self.assertEqual(root(c, r, f, mode + 8 * ends_number), [0, *answer], (c, r, f, mode, ends_number))

    def test_rational_roots(self):
        for how in ALL_HOWS:
            self.assertEqual(root(q(8, 0), 0, q(8, 0), how), [0, 0, 0])
            self.assertEqual(root(q(8, 0), 1, q(8, 0), how), [0, 0, 1])
            self.assertEqual(root(u(8, 0), 225, q(8, 0), how), [0, 0, 15])
            self.assertEqual(root(q(16, 2), 9, q(8, 1), how), [0, 0, 3])
            self.assertEqual(root(u(64, 64), 2 ** 62, u(64, 64), how), [0, 0, 2 ** 63])
        for how in ALL_HOWS[5:]:
            self.assertEqual(root(u(8, 0), 4, F32, how), [0, 0, 0x40000000])
            self.assertEqual(root(u(8, 2), 1, F64, how), [0, 0, 0x3FE0000000000000])
            # The root of 2^-1074 is 2^-537.
            self.assertEqual(root(F64, 1, F64, how), [0, 0, (1023 - 537) << 52])
            self.assertEqual(root(F32, 0, F64, how), [0, 0, 0])

    def test_roots_that_are_not_rational(self):
        # 1.414, 1.732
        self.check_modes(q(8, 0), 2, q(8, 0), ((1, 1), (1, 1), (1, 2), (1, 1), (1, 1)))
        self.check_modes(q(8, 0), 3, q(8, 0), ((1, 2), (1, 1), (1, 2), (1, 1), (1, 2)))
        self.check_modes(q(8, 0), 2, F64, (
            (1, 0x3FF6A09E667F3BCD), (1, 0x3FF6A09E667F3BCC), (1, 0x3FF6A09E667F3BCD),
            (1, 0x3FF6A09E667F3BCC), (1, 0x3FF6A09E667F3BCD)))
        self.check_modes(q(8, 0), 3, F32, (
            (1, 0x3FDDB3D7), (1, 0x3FDDB3D7), (1, 0x3FDDB3D8), (1, 0x3FDDB3D7), (1, 0x3FDDB3D7)))

    def test_ties(self):
        # The root of 2.25 is 1.5, that of 6.25 is 2.5.
        self.check_modes(q(8, 2), 9, q(8, 0), ((1, 2), (1, 1), (1, 2), (1, 1), (1, 2)))
        self.check_modes(q(8, 2), 25, q(8, 0), ((1, 2), (1, 2), (1, 3), (1, 2), (1, 3)))
        # Beside a tie: the roots of 2.25 more or less a little.
        self.check_modes(q(64, 60), 9 * 2 ** 58 - 1, q(8, 0), ((1, 1), (1, 1), (1, 2), (1, 1), (1, 1)))
        self.check_modes(q(64, 60), 9 * 2 ** 58 + 1, q(8, 0), ((1, 2), (1, 1), (1, 2), (1, 1), (1, 2)))

    def test_hardly_inexact(self):
        # 2^62 - 1 has a root just short of 2^31; 2^62 + 1 one just above it.
        self.check_modes(u(64, 0), 2 ** 62 - 1, u(32, 0), ((1, 2 ** 31), (1, 2 ** 31 - 1), (1, 2 ** 31), (1, 2 ** 31 - 1), (1, 2 ** 31)))
        self.check_modes(u(64, 0), 2 ** 62 + 1, u(32, 0), ((1, 2 ** 31), (1, 2 ** 31), (1, 2 ** 31 + 1), (1, 2 ** 31), (1, 2 ** 31)))
        one = 0x3FF0000000000000
        self.check_modes(F64, one + 1, F64, ((1, one), (1, one), (1, one + 1), (1, one), (1, one)))
        self.check_modes(F64, one - 1, F64, ((1, one - 1), (1, one - 1), (1, one), (1, one - 1), (1, one - 1)))

    def test_below_nought(self):
        for f in SOME_FORMATS:
            for how in hows_of(f):
                for c, r in ((q(8, 0), 255), (q(64, 64), 2 ** 63), (F32, 0x80000001), (F64, 2 ** 63 + 1), (F64, 0xFFEFFFFFFFFFFFFF)):
                    self.assertEqual(root(c, r, f, how), [0, 2, 0], (c, r, f, how))

    def test_into_t(self):
        for how in ALL_HOWS:
            for c, r, answer in ((T, 0, 0), (T, 1, 1), (F64, 1, 1), (u(64, 64), 1, 1), (F32, 0, 0), (F64, 0x7FEFFFFFFFFFFFFF, 1)):
                self.assertEqual(root(c, r, T, how), [0, 0, answer], (c, r, how))

    def test_past_the_ends(self):
        # The root of 16384 is 128; that of 16256 rounds to it.
        self.check_modes(q(16, 0), 16384, q(8, 0), ((5, 127),) * 5)
        self.check_modes(q(16, 0), 16384, q(8, 0), ((4, 128),) * 5, 0)
        self.check_modes(q(16, 0), 16257, q(8, 0), ((5, 127), (1, 127), (5, 127), (1, 127), (5, 127)))
        self.check_modes(q(16, 0), 16257, q(8, 0), ((5, 128), (1, 127), (5, 128), (1, 127), (5, 128)), 0)
        self.check_modes(q(16, 0), 16256, q(8, 0), ((1, 127), (1, 127), (5, 127), (1, 127), (1, 127)))
        self.check_modes(F64, 0x7FEFFFFFFFFFFFFF, F32, ((5, 0x7F7FFFFF),) * 5)
        self.check_modes(F64, 0x7FEFFFFFFFFFFFFF, u(64, 0), ((5, 2 ** 64 - 1),) * 5)

    def test_f32_at_its_greatest_end(self):
        # The root of 2^256 is 2^128; the root of what is just below it rounds to 2^128 or doesn't.
        below = 0x4FEFFFFFFFFFFFFF
        self.check_modes(F64, 0x4FF0000000000000, F32, ((5, 0x7F7FFFFF),) * 5)
        self.check_modes(F64, below, F32, ((5, 0x7F7FFFFF), (1, 0x7F7FFFFF), (5, 0x7F7FFFFF), (1, 0x7F7FFFFF), (5, 0x7F7FFFFF)))

    def test_floats_as_python_has_them(self):
        source = random.Random(10)
        for _ in range(500):
            r = source.randrange(0x7FF0000000000000)
            answer = root(F64, r, F64, 8)
            self.assertEqual(float(value(F64, answer[2])), math.sqrt(float(value(F64, r))), hex(r))

    def test_small_formats_whole(self):
        for r in range(256):
            for f in (q(8, 0), q(8, 7), u(8, 4), u(16, 16)):
                for how in ALL_HOWS:
                    self.assertEqual(root(u(8, 3), r, f, how), expected(u(8, 3), r, f, how), (r, f, how))
                    self.assertEqual(root(q(8, 8), r, f, how), expected(q(8, 8), r, f, how), (r, f, how))

    def test_formats_of_every_kind_by_search(self):
        for c in SOME_FORMATS:
            for f in SOME_FORMATS:
                raws = [raw for raw in good_raws_about(c) if value(c, raw) >= 0] + [ends(c)[2]]
                for place, r in enumerate(raws):
                    hows = hows_of(f)[place % 5:][:1] if f in FLOATS else hows_of(f)
                    for how in hows:
                        self.assertEqual(root(c, r, f, how), expected(c, r, f, how), (c, r, f, how))

    def test_wrong_hows(self):
        for f in SOME_FORMATS:
            for how in wrong_hows_of(f):
                self.assertEqual(root(T, 1, f, how), [-1], (f, how))
                self.assertEqual(root(q(8, 0), 255, f, how), [-1], (f, how))

    def test_wrong_codes_and_raws(self):
        for code in WRONG_CODES:
            self.assertEqual(root(code, 0, T, 8), [-1], code)
            self.assertEqual(root(T, 0, code, 8), [-1], code)
            self.assertEqual(root(q(8, 0), 255, code, 8), [-1], code)
        for code, raw in ((T, 2), (T, -1), (q(8, 0), 256), (q(8, 0), -1), (u(64, 0), 2 ** 64), (F32, 0x80000000), (F32, 0x7F800000),
                          (F64, 2 ** 63), (F64, 0xFFF0000000000000), (F64, -1), (F64, 2 ** 65)):
            self.assertEqual(root(code, raw, F32, 8), [-1], (code, raw))

    def test_plain_answers(self):
        for arguments in ((T, 1, F64, 8), (q(8, 4), 255, u(8, 0), 3), (F64, 5, F32, 10), (F64, 5, T, 2), (T, 0, F32, 0), (0, 0, 0, 0)):
            check_plain_answers(self, root, *arguments)


if __name__ == "__main__":
    unittest.main()

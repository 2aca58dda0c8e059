"""Promise 6: worth."""

import unittest

from exactraws.formats import good, worth

from helper import F32, F64, FAR_RAWS, T, WRONG_CODES
from helper import check_plain_answers, every_format, is_good, q, raws_about, u, value


class Worth(unittest.TestCase):
    def test_t(self):
        self.assertEqual(worth(T, 0), [0, 0, 1])
        self.assertEqual(worth(T, 1), [0, 1, 1])
        for raw in (-1, 2, 255, 256):
            self.assertEqual(worth(T, raw), [-1], raw)

    def test_fixed_points_written_out(self):
        for code, raw, top, bottom in (
            (q(8, 0), 0, 0, 1), (q(8, 8), 0, 0, 1), (q(8, 0), 127, 127, 1), (q(8, 0), 128, -128, 1), (q(8, 0), 255, -1, 1),
            (q(8, 4), 8, 1, 2), (q(8, 4), 16, 1, 1), (q(8, 4), 248, -1, 2), (q(8, 8), 128, -1, 2), (q(8, 8), 1, 1, 256),
            (q(8, 8), 192, -1, 4), (q(16, 12), 6144, 3, 2), (q(64, 64), 2 ** 63, -1, 2), (q(64, 64), 1, 1, 2 ** 64),
            (q(64, 0), 2 ** 64 - 1, -1, 1), (q(64, 63), 2 ** 63, -1, 1), (u(8, 0), 255, 255, 1), (u(8, 8), 255, 255, 256),
            (u(8, 8), 128, 1, 2), (u(64, 64), 2 ** 64 - 1, 2 ** 64 - 1, 2 ** 64), (u(64, 64), 0, 0, 1),
            (u(32, 31), 2 ** 31, 1, 1), (u(32, 31), 3 * 2 ** 30, 3, 2),
        ):
            self.assertEqual(worth(code, raw), [0, top, bottom], (code, raw))

    def test_floats_written_out(self):
        for code, raw, top, bottom in (
            (F32, 0, 0, 1), (F32, 1, 1, 2 ** 149), (F32, 2, 1, 2 ** 148), (F32, 0x80000001, -1, 2 ** 149),
            (F32, 0x007FFFFF, 2 ** 23 - 1, 2 ** 149), (F32, 0x00800000, 1, 2 ** 126),
            (F32, 0x00800001, 2 ** 23 + 1, 2 ** 149), (F32, 0x00FFFFFF, 2 ** 24 - 1, 2 ** 149), (F32, 0x01000000, 1, 2 ** 125),
            (F32, 0x3F800000, 1, 1), (F32, 0xBFC00000, -3, 2), (F32, 0x4B000001, 2 ** 23 + 1, 1), (F32, 0x4B800001, 2 ** 24 + 2, 1),
            (F32, 0x7F7FFFFF, 2 ** 128 - 2 ** 104, 1), (F32, 0xFF7FFFFF, 2 ** 104 - 2 ** 128, 1),
            (F64, 0, 0, 1), (F64, 1, 1, 2 ** 1074), (F64, 2 ** 63 + 1, -1, 2 ** 1074),
            (F64, 2 ** 52 - 1, 2 ** 52 - 1, 2 ** 1074), (F64, 2 ** 52, 1, 2 ** 1022), (F64, 2 ** 52 + 1, 2 ** 52 + 1, 2 ** 1074),
            (F64, 0x3FF0000000000000, 1, 1), (F64, 0xC000000000000000, -2, 1), (F64, 0x3FE8000000000000, 3, 4),
            (F64, 0x7FEFFFFFFFFFFFFF, 2 ** 1024 - 2 ** 971, 1), (F64, 0xFFEFFFFFFFFFFFFF, 2 ** 971 - 2 ** 1024, 1),
        ):
            self.assertEqual(worth(code, raw), [0, top, bottom], (code, hex(raw)))

    def test_every_format(self):
        for code in every_format().values():
            for raw in raws_about(code) + list(FAR_RAWS):
                # A Fraction keeps lowest terms with the second above 0, of 0 too.
                expected = [0, *value(code, raw).as_integer_ratio()] if is_good(code, raw) else [-1]
                self.assertEqual(worth(code, raw), expected, (code, raw))

    def test_raws_that_are_not_good(self):
        for code, raw in (
            (F32, 0x80000000), (F32, 0x7F800000), (F32, 0xFF800000), (F32, 0x7FC00000), (F32, 2 ** 32), (F32, -1),
            (F64, 2 ** 63), (F64, 0x7FF0000000000000), (F64, 0xFFF0000000000000), (F64, 0x7FF8000000000000), (F64, 2 ** 64),
            (q(8, 0), -1), (q(8, 0), 256), (u(16, 3), 65536), (u(64, 0), 2 ** 64), (q(64, 0), -(2 ** 63)),
        ):
            self.assertEqual(good(code, raw), [0, 0], (code, raw))
            self.assertEqual(worth(code, raw), [-1], (code, raw))

    def test_wrong_codes(self):
        for code in WRONG_CODES:
            for raw in (0, 1, -1, 2 ** 65):
                self.assertEqual(worth(code, raw), [-1], (code, raw))

    def test_plain_answers(self):
        for arguments in ((T, 1), (T, 2), (F32, 0x3F800000), (F64, 5), (q(16, 4), 65535), (u(8, 8), 0), (u(8, 8), 256), (0, 0)):
            check_plain_answers(self, worth, *arguments)


if __name__ == "__main__":
    unittest.main()

"""Promise 4: good."""

import unittest

from exactraws.formats import ends, good

from helper import F32, F64, FAR_RAWS, T, WIDTHS, WRONG_CODES, check_plain_answers, every_format, is_good, q, raws_about, u


class Good(unittest.TestCase):
    def test_t(self):
        for raw in range(-300, 600):
            self.assertEqual(good(T, raw), [0, 1 if raw in (0, 1) else 0], raw)

    def test_fixed_points_at_the_ends_and_just_outside(self):
        for width in WIDTHS:
            for point in range(width + 1):
                for code in (q(width, point), u(width, point)):
                    for raw in (0, 1, 2 ** (width - 1) - 1, 2 ** (width - 1), 2 ** width - 2, 2 ** width - 1):
                        self.assertEqual(good(code, raw), [0, 1], (code, raw))
                    for raw in (-1, -2, -(2 ** (width - 1)), -(2 ** width), 2 ** width, 2 ** width + 1):
                        self.assertEqual(good(code, raw), [0, 0], (code, raw))

    def test_small_formats_whole(self):
        for code in (q(8, 0), q(8, 8), u(8, 0), u(8, 5)):
            for raw in range(-300, 600):
                self.assertEqual(good(code, raw), [0, 1 if 0 <= raw <= 255 else 0], (code, raw))

    def test_f32(self):
        for raw in (0, 1, 0x007FFFFF, 0x00800000, 0x3F800000, 0x7F7FFFFF,
                    0x80000001, 0x807FFFFF, 0x80800000, 0xBF800000, 0xFF7FFFFF):
            self.assertEqual(good(F32, raw), [0, 1], hex(raw))
        for raw in (0x80000000, 0x7F800000, 0xFF800000, 0x7F800001, 0x7FC00000, 0x7FFFFFFF, 0xFF800001, 0xFFC00000,
                    0xFFFFFFFF, 0x100000000, 0x17F7FFFFF, -1, -0x80000000, -0x7FFFFFFF):
            self.assertEqual(good(F32, raw), [0, 0], hex(raw))

    def test_f64(self):
        for raw in (0, 1, 0x000FFFFFFFFFFFFF, 0x0010000000000000, 0x3FF0000000000000, 0x7FEFFFFFFFFFFFFF,
                    0x8000000000000001, 0x800FFFFFFFFFFFFF, 0x8010000000000000, 0xFFEFFFFFFFFFFFFF, 0x80000000):
            self.assertEqual(good(F64, raw), [0, 1], hex(raw))
        for raw in (0x8000000000000000, 0x7FF0000000000000, 0xFFF0000000000000, 0x7FF0000000000001, 0x7FF8000000000000,
                    0x7FFFFFFFFFFFFFFF, 0xFFF0000000000001, 0xFFFFFFFFFFFFFFFF, 0x10000000000000000, -1,
                    -0x8000000000000000):
            self.assertEqual(good(F64, raw), [0, 0], hex(raw))

    def test_every_format(self):
        for code in every_format().values():
            for raw in raws_about(code):
                self.assertEqual(good(code, raw), [0, 1 if is_good(code, raw) else 0], (code, raw))
            for raw in FAR_RAWS:
                self.assertEqual(good(code, raw), [0, 1 if is_good(code, raw) else 0], (code, raw))

    def test_ends_are_good(self):
        for code in every_format().values():
            for raw in ends(code)[1:]:
                self.assertEqual(good(code, raw), [0, 1])

    def test_wrong_codes(self):
        for code in WRONG_CODES:
            for raw in (0, 1, -1, 2 ** 63, 2 ** 65, -(2 ** 65)):
                self.assertEqual(good(code, raw), [-1], (code, raw))

    def test_plain_answers(self):
        for arguments in ((T, 1), (T, 2), (F32, 0x80000000), (F64, 5), (q(16, 4), 65535), (u(8, 8), 256), (0, 0), (-5, -5)):
            check_plain_answers(self, good, *arguments)


if __name__ == "__main__":
    unittest.main()

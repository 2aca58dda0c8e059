"""Promise 5: hand."""

import math
import unittest

from exactraws.formats import good, hand

from helper import F32, F64, FAR_RAWS, FLOATS, T, WRONG_CODES
from helper import as_real, check_plain_answers, every_format, q, raws_about, u, width_of


def expected(code, bits):
    if not 0 <= bits < 2 ** width_of(code):
        return [-1]
    if code == T:
        return [0, 0, 1 if bits else 0]
    if code in FLOATS:
        real = as_real(code, bits)
        if math.isnan(real):
            return [0, 4, 0]
        if math.isinf(real):
            # The end of an infinity's sign is the raw just short of it.
            return [0, 4, bits - 1]
        if real == 0:
            return [0, 0, 0]
    return [0, 0, bits]


class Hand(unittest.TestCase):
    def test_t(self):
        self.assertEqual(hand(T, 0), [0, 0, 0])
        for bits in range(1, 256):
            self.assertEqual(hand(T, bits), [0, 0, 1], bits)
        for bits in (-1, -255, 256, 257, 512):
            self.assertEqual(hand(T, bits), [-1], bits)

    def test_fixed_points_stay_as_they_are(self):
        for bits in range(256):
            self.assertEqual(hand(q(8, 3), bits), [0, 0, bits])
            self.assertEqual(hand(u(8, 8), bits), [0, 0, bits])
        self.assertEqual(hand(q(64, 0), 2 ** 63), [0, 0, 2 ** 63])
        self.assertEqual(hand(u(64, 64), 2 ** 64 - 1), [0, 0, 2 ** 64 - 1])

    def test_f32(self):
        for bits, flags, raw in (
            (0, 0, 0), (0x80000000, 0, 0), (1, 0, 1), (0x80000001, 0, 0x80000001), (0x807FFFFF, 0, 0x807FFFFF),
            (0x7F7FFFFF, 0, 0x7F7FFFFF), (0xFF7FFFFF, 0, 0xFF7FFFFF),
            (0x7F800000, 4, 0x7F7FFFFF), (0xFF800000, 4, 0xFF7FFFFF),
            (0x7F800001, 4, 0), (0x7FC00000, 4, 0), (0x7FFFFFFF, 4, 0),
            (0xFF800001, 4, 0), (0xFFC00000, 4, 0), (0xFFFFFFFF, 4, 0),
        ):
            self.assertEqual(hand(F32, bits), [0, flags, raw], hex(bits))

    def test_f64(self):
        for bits, flags, raw in (
            (0, 0, 0), (0x8000000000000000, 0, 0), (1, 0, 1), (0x8000000000000001, 0, 0x8000000000000001),
            (0x7FEFFFFFFFFFFFFF, 0, 0x7FEFFFFFFFFFFFFF), (0xFFEFFFFFFFFFFFFF, 0, 0xFFEFFFFFFFFFFFFF),
            (0x7FF0000000000000, 4, 0x7FEFFFFFFFFFFFFF), (0xFFF0000000000000, 4, 0xFFEFFFFFFFFFFFFF),
            (0x7FF0000000000001, 4, 0), (0x7FF8000000000000, 4, 0), (0xFFFFFFFFFFFFFFFF, 4, 0),
        ):
            self.assertEqual(hand(F64, bits), [0, flags, raw], hex(bits))

    def test_every_format(self):
        for code in every_format().values():
            for bits in raws_about(code) + list(FAR_RAWS):
                answer = hand(code, bits)
                self.assertEqual(answer, expected(code, bits), (code, bits))
                if answer != [-1]:
                    self.assertEqual(good(code, answer[2]), [0, 1], (code, bits))

    def test_wrong_codes(self):
        for code in WRONG_CODES:
            for bits in (0, 1, -1, 255, 2 ** 65, -(2 ** 65)):
                self.assertEqual(hand(code, bits), [-1], (code, bits))

    def test_plain_answers(self):
        for arguments in ((T, 200), (T, 256), (F32, 0x7F800000), (F64, 2 ** 63), (q(16, 4), 65535), (u(8, 8), 256), (0, 0)):
            check_plain_answers(self, hand, *arguments)


if __name__ == "__main__":
    unittest.main()

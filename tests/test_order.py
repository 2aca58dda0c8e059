"""Promise 7: order."""

import unittest

from exactraws.formats import order

from helper import F32, F64, SOME_FORMATS, T, WRONG_CODES
from helper import check_plain_answers, every_format, good_raws_about, is_good, q, raws_about, u, value


class Order(unittest.TestCase):
    def test_written_out(self):
        for arguments, answer in (
            ((T, 0, T, 1), 1), ((T, 1, T, 0), 3), ((T, 1, T, 1), 2), ((T, 0, T, 0), 2),
            ((q(8, 0), 128, q(8, 0), 127), 1), ((q(8, 0), 255, q(8, 0), 0), 1), ((u(8, 0), 255, u(8, 0), 0), 3),
            ((q(8, 0), 255, u(8, 0), 255), 1), ((q(8, 0), 1, q(8, 8), 127), 3), ((q(8, 4), 16, T, 1), 2),
            ((q(8, 7), 192, F32, 0xBF000000), 2), ((F32, 0x3F800000, F64, 0x3FF0000000000000), 2),
            # A tenth is another number in either float.
            ((F32, 0x3DCCCCCD, F64, 0x3FB999999999999A), 3), ((F64, 0x3FB999999999999A, F32, 0x3DCCCCCD), 1),
            ((F64, 1, F32, 1), 1), ((F64, 2 ** 63 + 1, F32, 0), 1), ((F64, 1, u(64, 64), 0), 3), ((F64, 1, u(64, 64), 1), 1),
            ((F64, 0x7FEFFFFFFFFFFFFF, F32, 0x7F7FFFFF), 3), ((F64, 0xFFEFFFFFFFFFFFFF, F32, 0xFF7FFFFF), 1),
            ((u(64, 0), 2 ** 53 + 1, F64, 0x4340000000000000), 3), ((u(64, 0), 2 ** 53, F64, 0x4340000000000000), 2),
            ((u(64, 0), 2 ** 64 - 1, F64, 0x43F0000000000000), 1), ((q(64, 0), 2 ** 63, F64, 0xC3E0000000000000), 2),
            ((F32, 0x80000001, F32, 0x80000002), 3), ((F32, 1, F32, 2), 1),
        ):
            self.assertEqual(order(*arguments), [0, answer], arguments)

    def test_small_formats_whole(self):
        for c, d in ((q(8, 3), q(8, 3)), (q(8, 4), u(8, 2)), (u(8, 8), q(8, 8))):
            for r in range(256):
                for s in range(0, 256, 5):
                    x, y = value(c, r), value(d, s)
                    self.assertEqual(order(c, r, d, s), [0, 1 if x < y else 2 if x == y else 3], (c, r, d, s))

    def test_formats_of_every_kind(self):
        some = [(code, raw) for code in SOME_FORMATS for raw in good_raws_about(code)[::3]]
        for c, r in some:
            for d, s in some:
                x, y = value(c, r), value(d, s)
                answer = order(c, r, d, s)
                if answer != [0, 1 if x < y else 2 if x == y else 3]:
                    self.fail((c, r, d, s, answer))

    def test_every_format_with_itself(self):
        for code in every_format().values():
            for raw in raws_about(code):
                self.assertEqual(order(code, raw, code, raw), [0, 2] if is_good(code, raw) else [-1], (code, raw))

    def test_raws_that_are_not_good(self):
        for code, raw in ((T, 2), (T, -1), (q(8, 0), 256), (q(8, 0), -1), (u(64, 0), 2 ** 64), (F32, 0x80000000), (F32, 0x7F800000),
                          (F32, 0xFFC00000), (F64, 2 ** 63), (F64, 0x7FF0000000000000), (F64, -1), (F64, 2 ** 65)):
            self.assertEqual(order(code, raw, T, 0), [-1], (code, raw))
            self.assertEqual(order(T, 0, code, raw), [-1], (code, raw))
            self.assertEqual(order(code, raw, code, raw), [-1], (code, raw))

    def test_wrong_codes(self):
        for code in WRONG_CODES:
            self.assertEqual(order(code, 0, T, 0), [-1], code)
            self.assertEqual(order(T, 0, code, 0), [-1], code)
            self.assertEqual(order(code, 0, code, 0), [-1], code)

    def test_plain_answers(self):
        for arguments in ((T, 1, F64, 5), (q(8, 0), 255, u(8, 0), 255), (F32, 1, F32, 1), (T, 2, T, 0), (0, 0, 0, 0)):
            check_plain_answers(self, order, *arguments)


if __name__ == "__main__":
    unittest.main()

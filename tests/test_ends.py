"""Promise 3: ends."""

import struct
import unittest

from exactraws.formats import ends

from helper import WRONG_CODES, check_plain_answers, every_format

SIGNED_ENDS = {
    8: [0, 128, 127],
    16: [0, 32768, 32767],
    32: [0, 2147483648, 2147483647],
    64: [0, 9223372036854775808, 9223372036854775807],
}
UNSIGNED_ENDS = {
    8: [0, 0, 255],
    16: [0, 0, 65535],
    32: [0, 0, 4294967295],
    64: [0, 0, 18446744073709551615],
}


class Ends(unittest.TestCase):
    def test_t(self):
        self.assertEqual(ends(2048), [0, 0, 1])

    def test_signed_of_every_width_and_point(self):
        for width, expected in SIGNED_ENDS.items():
            for point in range(width + 1):
                self.assertEqual(ends(65536 + width * 256 + point), expected, (width, point))

    def test_unsigned_of_every_width_and_point(self):
        for width, expected in UNSIGNED_ENDS.items():
            for point in range(width + 1):
                self.assertEqual(ends(131072 + width * 256 + point), expected, (width, point))

    def test_floats(self):
        self.assertEqual(ends(204800), [0, 0xFF7FFFFF, 0x7F7FFFFF])
        self.assertEqual(ends(212992), [0, 0xFFEFFFFFFFFFFFFF, 0x7FEFFFFFFFFFFFFF])

    def test_what_the_floats_ends_are_worth(self):
        for code, whole, real, greatest in (
            (204800, ">I", ">f", (2 - 2.0 ** -23) * 2.0 ** 127),
            (212992, ">Q", ">d", (2 - 2.0 ** -52) * 2.0 ** 1023),
        ):
            answer = ends(code)
            worths = [struct.unpack(real, struct.pack(whole, raw))[0] for raw in answer[1:]]
            self.assertEqual(worths, [-greatest, greatest])

    def test_small_formats_by_going_through_all_raws(self):
        for point in range(9):
            signed = sorted(range(256), key=lambda raw: raw - 256 if raw >= 128 else raw)
            self.assertEqual(ends(65536 + 2048 + point), [0, signed[0], signed[-1]])
            self.assertEqual(ends(131072 + 2048 + point), [0, 0, 255])

    def test_wrong_codes(self):
        for code in WRONG_CODES:
            self.assertEqual(ends(code), [-1], code)

    def test_every_code_from_below_the_first_to_beyond_the_last(self):
        codes = set(every_format().values())
        for code in range(-70000, 290000):
            answer = ends(code)
            if code in codes:
                self.assertEqual((answer[0], len(answer)), (0, 3), code)
            elif answer != [-1]:
                self.fail("ends(%d) is %r" % (code, answer))

    def test_plain_answers(self):
        for code in (2048, 69644, 147520, 204800, 212992, 0, -1):
            check_plain_answers(self, ends, code)


if __name__ == "__main__":
    unittest.main()

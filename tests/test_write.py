"""Promise 15: write."""

import decimal
import unittest

from exactraws.formats import read, write

from helper import F32, F64, SOME_FORMATS, T, WRONG_CODES
from helper import as_bytes, check_plain_answers, every_format, good_raws_about, is_good, q, raws_about, u, value

EXACT = decimal.Context(prec=2000, Emax=9999, Emin=-9999, traps=[decimal.Inexact])


def text_of(x):
    """The whole of a decimal, told without an exponent."""
    top, bottom = x.as_integer_ratio()
    text = format(EXACT.divide(decimal.Decimal(top), decimal.Decimal(bottom)), "f")
    return text.rstrip("0").rstrip(".") if "." in text else text


class Write(unittest.TestCase):
    def check(self, c, r, text):
        self.assertEqual(write(c, r), [0] + as_bytes(text), (c, r))

    def test_written_out(self):
        for c, r, text in (
            (T, 0, "0"), (T, 1, "1"), (q(8, 0), 0, "0"), (q(8, 0), 10, "10"), (q(8, 0), 100, "100"), (q(8, 0), 255, "-1"), (q(8, 0), 128, "-128"),
            (u(8, 0), 255, "255"), (q(8, 1), 1, "0.5"), (q(8, 1), 255, "-0.5"), (q(8, 1), 3, "1.5"), (q(8, 2), 20, "5"), (q(8, 2), 236, "-5"),
            (q(8, 8), 1, "0.00390625"), (q(8, 8), 128, "-0.5"), (q(8, 8), 0, "0"), (u(8, 8), 255, "0.99609375"), (u(8, 3), 255, "31.875"),
            (q(16, 4), 65535, "-0.0625"), (q(16, 4), 32768, "-2048"), (u(16, 4), 0x0A01, "160.0625"),
            (u(64, 0), 2 ** 64 - 1, "18446744073709551615"), (q(64, 0), 2 ** 63, "-9223372036854775808"), (u(64, 64), 2 ** 63, "0.5"),
            (u(64, 64), 1, "0.0000000000000000000542101086242752217003726400434970855712890625"),
            (F32, 0, "0"), (F32, 0x3F800000, "1"), (F32, 0x41200000, "10"), (F32, 0xC0200000, "-2.5"), (F32, 0x3DCCCCCD, "0.100000001490116119384765625"),
            (F32, 0x7F7FFFFF, "340282346638528859811704183484516925440"), (F32, 0xFF7FFFFF, "-340282346638528859811704183484516925440"),
            (F64, 0, "0"), (F64, 0x3FB999999999999A, "0.1000000000000000055511151231257827021181583404541015625"), (F64, 0x4059000000000000, "100"),
            (F64, 0xC340000000000000, "-9007199254740992"), (F64, 0x7E37E43C8800759C, str(int(1e300))),
        ):
            self.check(c, r, text)

    def test_least_of_the_floats(self):
        for code, places, sign in ((F32, 149, 2 ** 31), (F64, 1074, 2 ** 63)):
            # 2^-n is 5^n with the point n digits further left.
            text = "0." + str(5 ** places).rjust(places, "0")
            self.check(code, 1, text)
            self.check(code, sign + 1, "-" + text)

    def test_greatest_of_f64(self):
        self.check(F64, 0x7FEFFFFFFFFFFFFF, str(2 ** 1024 - 2 ** 971))
        self.check(F64, 0xFFEFFFFFFFFFFFFF, "-" + str(2 ** 1024 - 2 ** 971))

    def test_every_format(self):
        for code in every_format().values():
            for raw in raws_about(code):
                expected = [0] + as_bytes(text_of(value(code, raw))) if is_good(code, raw) else [-1]
                self.assertEqual(write(code, raw), expected, (code, raw))

    def test_small_formats_whole(self):
        for code in (q(8, 0), q(8, 5), u(8, 8)):
            for raw in range(256):
                self.check(code, raw, text_of(value(code, raw)))

    def test_there_and_back(self):
        for code in SOME_FORMATS:
            for raw in good_raws_about(code):
                text = write(code, raw)[1:]
                if len([byte for byte in text if 48 <= byte <= 57]) <= 40:
                    self.assertEqual(read(code, 8, text), [0, 0, raw], (code, raw))

    def test_wrong_codes_and_raws(self):
        for code in WRONG_CODES:
            for raw in (0, 1, -1, 2 ** 65):
                self.assertEqual(write(code, raw), [-1], (code, raw))
        for code, raw in ((T, 2), (T, -1), (q(8, 0), 256), (q(8, 0), -1), (u(64, 0), 2 ** 64), (F32, 0x80000000), (F32, 0x7F800000),
                          (F64, 2 ** 63), (F64, 0xFFF0000000000000), (F64, -1), (F64, 2 ** 65)):
            self.assertEqual(write(code, raw), [-1], (code, raw))

    def test_plain_answers(self):
        for arguments in ((T, 1), (T, 2), (F32, 0x3DCCCCCD), (F64, 5), (q(16, 4), 65535), (u(8, 8), 0), (0, 0)):
            check_plain_answers(self, write, *arguments)


if __name__ == "__main__":
    unittest.main()

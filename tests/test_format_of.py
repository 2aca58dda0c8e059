"""Promise 1: format."""

import unittest

from exactraws.formats import format_of

from helper import as_bytes, check_plain_answers, every_format

WRONG_NAMES = (
    "", "q", "u", "f", "_", "8", "q8", "u8", "q8_", "u64_", "q_", "q_0", "q_8", "8_0", "q80", "q160",
    "q08_0", "q008_0", "q8_00", "q8_01", "q8_08", "q16_00", "u08_8", "u064_64", "u64_064", "f032", "f064", "q8_-0",
    "q0_0", "q1_0", "q4_0", "q7_0", "q9_0", "q24_0", "q48_0", "q63_0", "q65_0", "q128_0", "q128_128", "q256_0",
    "u0_0", "u7_0", "u24_0", "u128_0", "u264_0",
    "q8_9", "q16_17", "q32_33", "q64_65", "u8_9", "u16_17", "u32_33", "u64_65", "q8_16", "q8_10", "q8_256", "u8_256",
    "t0", "t8", "t_0", "t8_0", "tt", "T", "f8", "f16", "f128", "f32_0", "f64_0", "f32_", "f 32", "F32", "f320",
    "Q8_0", "U8_0", "q8_0 ", " q8_0", "q8 _0", "q8_0\n", "q8_0\0", "q8-0", "q8.0", "q8__0", "q8_0_", "q+8_0", "q8_+0",
    "s8_0", "i8_0", "q8_0q8_0", "t ", " t", "t\0", "\0", "\xff", "q8_\xb2", "2048", "204800", "q7_256", "q6_512",
    "u0_2048", "q0_2048", "f0_8192", "f31_256", "q264_0", "u8_00000000000000000000000000000000000000000000000000000000000",
    "q" * 64, "0" * 64, "q" + "9" * 63, "q8_" + "9" * 61, "q8_0" + " " * 60, "q" + "0" * 60 + "8_0", "\xff" * 64,
)


class FormatOf(unittest.TestCase):
    def test_names_written_out(self):
        for text, code in (
            ("t", 2048), ("q8_0", 67584), ("q8_8", 67592), ("q16_0", 69632), ("q16_12", 69644), ("q16_16", 69648),
            ("q32_0", 73728), ("q32_32", 73760), ("q64_0", 81920), ("q64_9", 81929), ("q64_64", 81984),
            ("u8_0", 133120), ("u8_8", 133128), ("u16_0", 135168), ("u16_16", 135184), ("u32_0", 139264),
            ("u32_31", 139295), ("u32_32", 139296), ("u64_0", 147456), ("u64_10", 147466), ("u64_64", 147520),
            ("f32", 204800), ("f64", 212992),
        ):
            self.assertEqual(format_of(as_bytes(text)), [0, code], text)

    def test_every_name(self):
        table = every_format()
        self.assertEqual(len(table), 251)
        for text, code in table.items():
            self.assertEqual(format_of(as_bytes(text)), [0, code], text)

    def test_wrong_names(self):
        for text in WRONG_NAMES:
            self.assertEqual(format_of(as_bytes(text)), [-6], text)

    def test_one_byte(self):
        for byte in range(256):
            self.assertEqual(format_of([byte]), [0, 2048] if byte == 116 else [-6], byte)

    def check(self, text, table):
        expected = [0, table[text]] if text in table else [-6]
        self.assertEqual(format_of(as_bytes(text)), expected, repr(text))

    def test_every_name_with_one_byte_amiss(self):
        table = every_format()
        signs = "0123456789_qutf /:-"
        for text in table:
            for place in range(len(text)):
                self.check(text[:place] + text[place + 1:], table)
                for sign in signs:
                    self.check(text[:place] + sign + text[place + 1:], table)
                    self.check(text[:place] + sign + text[place:], table)
            for sign in signs:
                self.check(text + sign, table)

    def test_any_byte_put_in(self):
        table = every_format()
        for text in ("t", "q8_0", "u16_16", "q64_5", "f32", "f64"):
            for place in range(len(text) + 1):
                for byte in range(256):
                    self.check(text[:place] + chr(byte) + text[place:], table)
                    self.check(text[:place] + chr(byte) + text[place + 1:], table)

    def test_all_small_widths_and_points(self):
        table = every_format()
        for letter in "quft":
            for width in range(0, 140):
                for point in list(range(0, 70)) + [128, 255, 256, 257, 512]:
                    self.check("%s%d_%d" % (letter, width, point), table)
                self.check("%s%d" % (letter, width), table)

    def test_plain_answers(self):
        for text in ("t", "q32_16", "u64_64", "f64", "q8_9", "q08_0", "", "x" * 64):
            check_plain_answers(self, format_of, as_bytes(text))


if __name__ == "__main__":
    unittest.main()

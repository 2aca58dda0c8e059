"""Promise 2: name."""

import unittest

from exactraws.formats import format_of, name

from helper import WRONG_CODES, as_bytes, check_plain_answers, every_format


class Name(unittest.TestCase):
    def test_names_written_out(self):
        self.assertEqual(name(2048), [0, 116])
        self.assertEqual(name(67584), [0, 113, 56, 95, 48])
        self.assertEqual(name(69632), [0, 113, 49, 54, 95, 48])
        self.assertEqual(name(69648), [0, 113, 49, 54, 95, 49, 54])
        self.assertEqual(name(81984), [0, 113, 54, 52, 95, 54, 52])
        self.assertEqual(name(133128), [0, 117, 56, 95, 56])
        self.assertEqual(name(139295), [0, 117, 51, 50, 95, 51, 49])
        self.assertEqual(name(147465), [0, 117, 54, 52, 95, 57])
        self.assertEqual(name(204800), [0, 102, 51, 50])
        self.assertEqual(name(212992), [0, 102, 54, 52])

    def test_every_name(self):
        for text, code in every_format().items():
            self.assertEqual(name(code), [0] + as_bytes(text), text)

    def test_there_and_back(self):
        for code in every_format().values():
            self.assertEqual(format_of(name(code)[1:]), [0, code])

    def test_wrong_codes(self):
        for code in WRONG_CODES:
            self.assertEqual(name(code), [-1], code)

    def test_every_code_from_below_the_first_to_beyond_the_last(self):
        texts = {code: as_bytes(text) for text, code in every_format().items()}
        for code in range(-70000, 290000):
            expected = [0] + texts[code] if code in texts else [-1]
            if name(code) != expected:
                self.fail("name(%d) is %r, not %r" % (code, name(code), expected))

    def test_plain_answers(self):
        for code in (2048, 69644, 147520, 204800, 212992, 0, -1):
            check_plain_answers(self, name, code)


if __name__ == "__main__":
    unittest.main()

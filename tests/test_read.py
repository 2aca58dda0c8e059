"""Promise 14: read."""

import itertools
import random
import re
import unittest
from fractions import Fraction

from exactraws.formats import put, read

from helper import ALL_HOWS, F32, F64, SOME_FORMATS, T, WRONG_CODES, Exactly
from helper import as_bytes, check_plain_answers, hows_of, put_by_search, q, u, wrong_hows_of

Q8 = q(8, 0)
FORM = re.compile(r"(-?)(?:([0-9]+)(?:\.([0-9]+))?(?:e(-?[0-9]{1,3}))?|([0-9]+)/([0-9]+))", re.ASCII)


def number(text):
    """What a number's text is worth; None if it's none."""
    found = FORM.fullmatch(text)
    if not found:
        return None
    sign, whole, behind, exponent, top, bottom = found.groups()
    if sum(len(digits or "") for digits in (whole, behind, top, bottom)) > 40:
        return None
    if top is not None:
        if int(bottom) == 0:
            return None
        size = Fraction(int(top), int(bottom))
    else:
        size = int(whole + (behind or "")) * Fraction(10) ** (int(exponent or 0) - len(behind or ""))
    return -size if sign else size


def can_go_on(text):
    return any(number(text + more) is not None for more in ("", "1", "01", ".1", "/1", "e1", "-1"))


def fault(text):
    for place in range(len(text)):
        if not can_go_on(text[:place + 1]):
            return place
    return len(text)


def expected(f, how, text):
    if len(text) > 64:
        return [-1]
    x = number(text)
    if x is None:
        return [-6, fault(text)]
    return [0] + put_by_search(Exactly(x), f, how)


class Read(unittest.TestCase):
    def check(self, text, answer, f=Q8, how=0):
        self.assertEqual(read(f, how, as_bytes(text)), answer, text)

    def test_points_and_exponents(self):
        for text, raw in (
            ("0", 0), ("-0", 0), ("7", 28), ("-7", 228), ("007", 28), ("0.5", 2), ("-0.5", 254), ("00.50", 2), ("1.25", 5), ("1.250", 5),
            ("5e0", 20), ("5e-0", 20), ("5e00", 20), ("5e000", 20), ("1e1", 40), ("1e01", 40), ("1e001", 40), ("-1e1", 216),
            ("250e-1", 100), ("250e-001", 100), ("0.25e1", 10), ("-0.025e2", 246), ("0e999", 0), ("0e-999", 0), ("-0.0e5", 0),
            ("0.0000000001e10", 4), ("12500000000e-10", 5),
        ):
            self.check(text, [0, 0, raw], q(8, 2))

    def test_quotients(self):
        for text, raw in (("1/1", 4), ("1/4", 1), ("-1/4", 255), ("6/8", 3), ("0/5", 0), ("-0/5", 0), ("007/004", 7), ("00/01", 0),
                          ("-10/1", 216), ("0/00001", 0)):
            self.check(text, [0, 0, raw], q(8, 2))
        self.check("1/3", [0, 1, 0x3FD5555555555555], F64, 8)
        self.check("-2/3", [0, 1, 0xBF2AAAAB], F32, 8)

    def test_put_by_every_mode(self):
        for text in ("2.5", "-2.5", "0.5", "-0.5", "7/2", "-7/2", "1/3", "-1/3", "127.5", "-128.5", "1e999", "-1e999", "1e-999", "-1e-999"):
            for f in SOME_FORMATS:
                for how in hows_of(f):
                    self.check(text, expected(f, how, text), f, how)

    def test_floats_as_python_has_them(self):
        source = random.Random(14)
        for _ in range(300):
            text = "%s%d.%de%d" % (source.choice(("", "-")), source.randrange(10 ** 9), source.randrange(10 ** 18), source.randrange(-330, 300))
            answer = read(F64, 8, as_bytes(text))
            top, bottom = float(text).as_integer_ratio()
            self.assertEqual(answer[2], put(top, bottom, F64, 8)[2], text)
        self.check("0.1", [0, 1, 0x3FB999999999999A], F64, 8)
        self.check("5e-324", [0, 1, 1], F64, 8)
        self.check("2e-324", [0, 1, 0], F64, 8)
        self.check("1e309", [0, 5, 0x7FEFFFFFFFFFFFFF], F64, 8)
        self.check("-3.4028236e38", [0, 5, 0xFF7FFFFF], F32, 8)

    def test_40_digits_and_41(self):
        nines = "9" * 40
        self.check(nines, [0, 4, (10 ** 40 - 1) % 256])
        self.check("-" + nines, [0, 4, (1 - 10 ** 40) % 256])
        self.check("0" * 39 + "5", [0, 0, 5])
        self.check("0" * 39 + "5e001", [0, 0, 50])
        self.check("0" * 39 + "50e-01", [-6, 40])
        self.check("0" * 20 + "." + "0" * 20, [0, 0, 0])
        self.check("5." + "0" * 39, [0, 0, 5])
        self.check("5." + "0" * 39 + "e-000", [0, 0, 5])
        self.check("5/" + "0" * 38 + "1", [0, 0, 5])
        self.check("0" * 39 + "/1", [0, 0, 0])
        for text, place in (
            ("1" * 41, 40), ("-" + "1" * 41, 41), ("1" * 64, 40), ("1" * 20 + "." + "1" * 21, 41), ("-" + "1" * 20 + "." + "1" * 21, 42),
            ("5." + "0" * 40, 41), ("1" * 20 + "/" + "1" * 21, 41), ("5/" + "0" * 38 + "11", 41), ("-5/1" + "0" * 39, 42),
        ):
            self.check(text, [-6, place])

    def test_no_room_for_the_digit_that_must_follow(self):
        full = "1" * 40
        for text, place in (
            (full + ".", 40), (full + ".5", 40), (full + "/", 40), (full + "/5", 40), ("-" + full + "/", 41), (full + "e", 41),
            (full + "e-", 42), (full + "e5", None), (full + "x", 40), ("1" * 39 + "/0", 40), ("1" * 39 + "/05", 40), ("1" * 39 + "/", 40),
            ("1" * 39 + ".", 40), ("1" * 38 + "/0", 40), ("1" * 38 + "/00", 40), ("1" * 38 + "/001", 40), ("1" * 38 + "/01", None),
            ("-" + "1" * 38 + "/00", 41), ("1/" + "0" * 39, 40), ("1/" + "0" * 38, 40), ("1/" + "0" * 60, 40), ("1/" + "0" * 38 + "x", 40),
        ):
            answer = read(T, 0, as_bytes(text))
            self.assertEqual(answer, [0, 0, 1] if place is None else [-6, place], text)
            self.assertEqual(answer, expected(T, 0, text), text)

    def test_faults_at_each_part(self):
        for text, place in (
            ("", 0), ("-", 1), ("x", 0), ("+1", 0), (" 1", 0), (".5", 0), ("e5", 0), ("/2", 0), ("--1", 1), ("-.5", 1), ("-x", 1), ("-e", 1), ("-/", 1),
            ("1x", 1), ("1-", 1), ("1 ", 1), ("12,5", 2), ("1E5", 1), ("1.", 2), ("1..", 2), ("1.e5", 2), ("1.-5", 2), ("1./", 2), ("1.x", 2),
            ("1.5.", 3), ("1.5/2", 3), ("1.5x", 3), ("1.5-", 3), ("1e", 2), ("1e-", 3), ("1e+5", 2), ("1e--5", 3), ("1ex", 2), ("1e.", 2), ("1e/", 2),
            ("1e-x", 3), ("1e5x", 3), ("1e5.", 3), ("1e5-", 3), ("1e5e", 3), ("1e5/2", 3), ("1e1234", 5), ("1e-1234", 6), ("1e0001", 5), ("1.5e0000", 7),
            ("1/", 2), ("1/-2", 2), ("1/x", 2), ("1/.", 2), ("1/e", 2), ("1//2", 2), ("1/2.", 3), ("1/2e5", 3), ("1/2/3", 3), ("1/2-", 3), ("1/2x", 3),
            ("1/0", 3), ("1/00", 4), ("1/0x", 3), ("1/00x", 4), ("-1/0", 4), ("0/0", 3), ("0/00", 4), ("1/0.5", 3), ("1/0e1", 3), ("1/0/", 3),
            ("5\0", 1), ("\0", 0), ("5\n", 1), ("5\xff", 1), ("\xb2", 0), ("5:", 1), ("5_0", 1),
        ):
            self.assertEqual(fault(text), place, text)
            self.check(text, [-6, place])

    def test_every_byte_behind_each_part(self):
        for start in ("", "-", "1", "1.", "1.5", "1e", "1e-", "1e5", "1e123", "1/", "1/0", "1/2"):
            for byte in range(256):
                text = start + chr(byte)
                self.check(text, expected(Q8, 8, text), Q8, 8)

    def test_all_short_texts(self):
        for length in range(6):
            for signs in itertools.product("-07./ex", repeat=length):
                text = "".join(signs)
                x = number(text)
                answer = read(T, 0, as_bytes(text))
                if answer != ([-6, fault(text)] if x is None else [0, 0, 0 if x == 0 else 1]):
                    self.fail((text, answer))

    def test_long_texts_by_search(self):
        source = random.Random(15)
        for _ in range(3000):
            parts = [source.choice(("", "-"))]
            for mark in source.choice((".", "/", "e", ".e", "", "/.", "//", "e.", ".e-", "e-", "/0")):
                parts += ["".join(source.choice(("0", "0123456789")[source.randrange(2)]) for _ in range(source.randrange(42))), mark]
            parts.append("".join(source.choice("0123456789") for _ in range(source.choice((0, 1, 2, 3, 4, 20)))))
            text = "".join(parts)
            self.check(text, expected(u(64, 30), 12, text), u(64, 30), 12)

    def test_64_bytes_and_more(self):
        self.check("x" * 64, [-6, 0])
        self.check("1" * 64, [-6, 40])
        self.check("1/" + "0" * 62, [-6, 40])
        for text in ("1" * 65, "x" * 65, " " * 70, "0" * 70, "1" + " " * 64, "1." + "0" * 63):
            self.check(text, [-1])

    def test_numbers_that_are_no_bytes(self):
        for entry in (-1, -45, 256, 256 + 48, 10 ** 30):
            self.assertEqual(read(Q8, 0, [entry]), [-6, 0])
            self.assertEqual(read(Q8, 0, [49, entry]), [-6, 1])

    def test_wrong_hows_and_codes(self):
        for text in ("1", "", "x", "1" * 65):
            for f in SOME_FORMATS:
                for how in wrong_hows_of(f):
                    self.check(text, [-1], f, how)
            for code in WRONG_CODES:
                for how in ALL_HOWS:
                    self.check(text, [-1], code, how)

    def test_plain_answers(self):
        for f, how, text in ((F64, 8, "1.5e-3"), (Q8, 0, "-7/2"), (Q8, 0, "7/x"), (T, 0, ""), (T, 0, "1" * 70), (F32, 0, "1")):
            check_plain_answers(self, read, f, how, as_bytes(text))


if __name__ == "__main__":
    unittest.main()

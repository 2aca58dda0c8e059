"""Promise 9: two."""

import math
import random
import unittest

from exactraws.formats import ends, turn, two

from helper import ALL_HOWS, F32, F64, FLOATS, SOME_FORMATS, T, WRONG_CODES, Exactly
from helper import check_plain_answers, good_raws_about, hows_of, put_by_search, q, u, value, wrong_hows_of

ONE = 0x3FF0000000000000


def reckoned(op, x, y):
    if op == 6:
        return x - y * math.trunc(x / y)
    if op == 3:
        return x / y
    return (x + y, x - y, x * y, None, min(x, y), max(x, y))[op]


def expected(op, c, r, d, s, f, how):
    x, y = value(c, r), value(d, s)
    if y == 0 and op == 3:
        if x == 0:
            return [0, 2, 0]
        return [0, 6, ends(f)[1 if x < 0 else 2]]
    if y == 0 and op == 6:
        put = put_by_search(Exactly(x), f, how)
        return [0, put[0] + 2, put[1]]
    return [0] + put_by_search(Exactly(reckoned(op, x, y)), f, how)


class Two(unittest.TestCase):
    def test_every_operation_on_whole_numbers(self):
        # 7 and -2, -7 and 2, 7 and 2, -7 and -2.
        for r, s, answers in (
            (7, 254, (5, 9, 242, 253, 254, 7, 1)),
            (249, 2, (251, 247, 242, 253, 249, 2, 255)),
            (7, 2, (9, 5, 14, 3, 2, 7, 1)),
            (249, 254, (247, 251, 14, 3, 249, 254, 255)),
        ):
            for op, raw in enumerate(answers):
                # Toward 0: only the division is inexact.
                self.assertEqual(two(op, q(8, 0), r, q(8, 0), s, q(8, 0), 9), [0, 1 if op == 3 else 0, raw], (op, r, s))

    def test_put_once(self):
        # 1.5 times 1.5 is 2.25; a third from the unrounded quotient.
        self.assertEqual(two(2, q(8, 1), 3, q(8, 1), 3, q(8, 2), 0), [0, 0, 9])
        self.assertEqual(two(2, q(8, 1), 3, q(8, 1), 3, q(8, 1), 0), [0, 1, 4])
        self.assertEqual(two(2, q(8, 1), 3, q(8, 1), 3, q(8, 1), 4), [0, 1, 5])
        self.assertEqual(two(3, T, 1, q(8, 0), 3, F64, 8), [0, 1, 0x3FD5555555555555])
        self.assertEqual(two(3, T, 1, q(8, 0), 3, F64, 10), [0, 1, 0x3FD5555555555556])
        self.assertEqual(two(3, T, 1, q(8, 0), 253, F32, 8), [0, 1, 0xBEAAAAAB])
        self.assertEqual(two(3, T, 1, q(8, 0), 253, F32, 9), [0, 1, 0xBEAAAAAA])
        self.assertEqual(two(3, F32, 1, F32, 0x7F7FFFFF, F32, 10), [0, 1, 1])
        self.assertEqual(two(3, F32, 0x7F7FFFFF, F32, 1, F32, 9), [0, 5, 0x7F7FFFFF])

    def test_floats_as_python_has_them(self):
        source = random.Random(9)
        for _ in range(300):
            r, s = (source.randrange(0x3C00000000000000, 0x4300000000000000) + source.choice((0, 2 ** 63)) for _ in range(2))
            x, y = float(value(F64, r)), float(value(F64, s))
            for op, answer in ((0, x + y), (1, x - y), (2, x * y), (3, x / y), (6, math.fmod(x, y))):
                self.assertEqual(float(value(F64, two(op, F64, r, F64, s, F64, 8)[2])), answer, (op, x, y))

    def test_sums_that_come_to_nought(self):
        for how in ALL_HOWS[5:]:
            self.assertEqual(two(1, F64, ONE, F64, ONE, F64, how), [0, 0, 0])
            self.assertEqual(two(0, F32, 0xBF800000, T, 1, F32, how), [0, 0, 0])
            self.assertEqual(two(6, q(8, 0), 248, q(8, 0), 4, F32, how), [0, 0, 0])
            self.assertEqual(two(2, q(8, 0), 248, q(8, 0), 0, F64, how), [0, 0, 0])

    def test_quotient_by_nought(self):
        for f in SOME_FORMATS:
            least, greatest = ends(f)[1:]
            for how in hows_of(f):
                for d in SOME_FORMATS:
                    self.assertEqual(two(3, F64, 1, d, 0, f, how), [0, 6, greatest], (d, f, how))
                    self.assertEqual(two(3, q(8, 0), 255, d, 0, f, how), [0, 6, least], (d, f, how))
                    self.assertEqual(two(3, u(8, 8), 0, d, 0, f, how), [0, 2, 0], (d, f, how))

    def test_rest_by_nought(self):
        for f in SOME_FORMATS:
            for how in hows_of(f):
                for c, r in ((F64, 1), (q(8, 1), 255), (u(8, 8), 0), (q(64, 0), 2 ** 63), (F64, 0x7FEFFFFFFFFFFFFF), (T, 1)):
                    flags, raw = turn(c, r, f, how)[1:]
                    self.assertEqual(two(6, c, r, q(16, 3), 0, f, how), [0, flags + 2, raw], (c, r, f, how))
        self.assertEqual(two(6, q(8, 1), 3, T, 0, q(8, 0), 0), [0, 3, 2])
        self.assertEqual(two(6, q(16, 0), 300, T, 0, q(8, 0), 8), [0, 7, 127])
        self.assertEqual(two(6, q(16, 0), 300, T, 0, q(8, 0), 0), [0, 6, 44])
        self.assertEqual(two(6, q(8, 0), 0, T, 0, q(8, 0), 0), [0, 2, 0])
        self.assertEqual(two(6, q(8, 0), 255, T, 0, T, 0), [0, 2, 1])

    def test_nought_elsewhere_is_no_fault(self):
        for op in (0, 1, 2, 4, 5):
            self.assertEqual(two(op, T, 1, T, 0, q(8, 0), 0)[1], 0)
        for op in (3, 6):
            self.assertEqual(two(op, T, 0, q(8, 0), 253, q(8, 0), 0), [0, 0, 0])

    def test_rest_of_fractions(self):
        # 5.5 by 0.75 leaves 0.25; what is left has x's sign.
        for r, s, left in ((22, 3, 1), (256 - 22, 3, 255), (22, 253, 1), (256 - 22, 253, 255), (3, 22, 3), (253, 22, 253), (22, 22, 0)):
            self.assertEqual(two(6, q(8, 2), r, q(8, 2), s, q(8, 2), 0), [0, 0, left], (r, s))
        # The greatest of f64 by its least leaves nothing; by 3 times the least it leaves 1 or 2 of them.
        self.assertEqual(two(6, F64, 0x7FEFFFFFFFFFFFFF, F64, 1, F64, 8), [0, 0, 0])
        left = int(value(F64, 0x7FEFFFFFFFFFFFFF) * 2 ** 1074 % 3)
        self.assertEqual(two(6, F64, 0x7FEFFFFFFFFFFFFF, F64, 3, F64, 8), [0, 0, left])

    def test_small_formats_whole(self):
        for op in range(7):
            for r in range(0, 256, 3):
                for s in range(0, 256, 5):
                    how = ALL_HOWS[(r + s) % 10]
                    arguments = (op, q(8, 4), r, q(8, 2), s, q(8, 3), how)
                    if two(*arguments) != expected(*arguments):
                        self.fail((arguments, two(*arguments), expected(*arguments)))

    def test_formats_of_every_kind_by_search(self):
        source = random.Random(6)
        raws = {code: good_raws_about(code) for code in SOME_FORMATS}
        for f in SOME_FORMATS:
            for op in range(7):
                for how in hows_of(f):
                    for _ in range(6 if f in FLOATS else 25):
                        c, d = source.choice(SOME_FORMATS), source.choice(SOME_FORMATS)
                        arguments = (op, c, source.choice(raws[c]), d, source.choice(raws[d]), f, how)
                        self.assertEqual(two(*arguments), expected(*arguments), arguments)

    def test_wrong_operations(self):
        for op in (-1, -2, -6, -7, 7, 8, 16, 2147483647, -2147483648, 10 ** 40):
            self.assertEqual(two(op, T, 1, T, 1, T, 8), [-1], op)
            self.assertEqual(two(op, T, 1, T, 0, T, 8), [-1], op)

    def test_wrong_hows(self):
        for f in SOME_FORMATS:
            for how in wrong_hows_of(f):
                for op in range(7):
                    self.assertEqual(two(op, T, 1, T, 1, f, how), [-1], (op, f, how))
                    self.assertEqual(two(op, T, 1, T, 0, f, how), [-1], (op, f, how))

    def test_wrong_codes_and_raws(self):
        for op in (0, 3, 6):
            for code in WRONG_CODES:
                self.assertEqual(two(op, code, 0, T, 0, T, 8), [-1], code)
                self.assertEqual(two(op, T, 0, code, 0, T, 8), [-1], code)
                self.assertEqual(two(op, T, 0, T, 0, code, 8), [-1], code)
            for code, raw in ((T, 2), (T, -1), (q(8, 0), 256), (q(8, 0), -1), (u(64, 0), 2 ** 64), (F32, 0x80000000),
                              (F32, 0x7F800000), (F64, 2 ** 63), (F64, 0xFFF0000000000000), (F64, 2 ** 65)):
                self.assertEqual(two(op, code, raw, T, 1, T, 8), [-1], (code, raw))
                self.assertEqual(two(op, T, 1, code, raw, T, 8), [-1], (code, raw))

    def test_plain_answers(self):
        for arguments in ((0, T, 1, F64, 5, F64, 8), (3, T, 1, T, 0, u(8, 0), 3), (6, F64, 5, T, 0, F32, 10), (4, T, 1, T, 1, T, 1),
                          (7, T, 1, T, 1, T, 1), (0, T, 0, T, 0, F32, 0)):
            check_plain_answers(self, two, *arguments)


if __name__ == "__main__":
    unittest.main()

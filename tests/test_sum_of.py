"""Promise 12: the words' sum."""

import random
import unittest
from fractions import Fraction

from exactraws.formats import sum_of

from helper import ALL_HOWS, F32, F64, FLOATS, SOME_FORMATS, T, WRONG_CODES, Exactly
from helper import check_plain_answers, good_raws_about, hows_of, put_by_search, q, u, value, wrong_hows_of


def expected(f, how, weights, numbers):
    total = Fraction(0)
    for place in range(0, len(weights), 2):
        total += value(weights[place], weights[place + 1]) * value(numbers[place], numbers[place + 1])
    return [0] + put_by_search(Exactly(total), f, how)


class SumOf(unittest.TestCase):
    def test_no_pair(self):
        for f in SOME_FORMATS:
            for how in hows_of(f):
                self.assertEqual(sum_of(f, how, [], []), [0, 0, 0])

    def test_one_pair(self):
        self.assertEqual(sum_of(q(8, 0), 0, [q(8, 0), 3], [q(8, 0), 251]), [0, 0, 241])
        self.assertEqual(sum_of(q(8, 0), 0, [q(8, 1), 1], [q(8, 0), 5]), [0, 1, 2])
        self.assertEqual(sum_of(q(8, 0), 4, [q(8, 1), 1], [q(8, 0), 5]), [0, 1, 3])
        self.assertEqual(sum_of(q(8, 0), 8, [u(8, 0), 255], [u(8, 0), 255]), [0, 5, 127])
        self.assertEqual(sum_of(q(8, 0), 0, [u(8, 0), 255], [u(8, 0), 255]), [0, 4, 1])
        self.assertEqual(sum_of(T, 0, [T, 1], [q(8, 0), 255]), [0, 0, 1])
        self.assertEqual(sum_of(F32, 8, [T, 1], [F64, 0x7FEFFFFFFFFFFFFF]), [0, 5, 0x7F7FFFFF])

    def test_each_weight_with_the_number_in_its_place(self):
        weights = [q(8, 0), 2, q(8, 1), 3, T, 1]
        numbers = [u(8, 0), 10, F32, 0x40000000, q(8, 0), 252]
        # 2 times 10, 1.5 times 2, 1 times -4.
        self.assertEqual(sum_of(q(8, 0), 0, weights, numbers), [0, 0, 19])

    def test_put_once(self):
        # Four times a quarter of a step: rounded on the way, the sum would stay at 0 or come to 4.
        for how in ALL_HOWS:
            self.assertEqual(sum_of(q(8, 0), how, [T, 1] * 4, [q(8, 2), 1] * 4), [0, 0, 1], how)
        # 2^1000 is added and taken away again: the least of f64 remains.
        big, small = (1023 + 1000) << 52, 1
        self.assertEqual(sum_of(F64, 8, [T, 1] * 3, [F64, big, F64, small, F64, big + 2 ** 63]), [0, 0, 1])
        # 200 and 200 less 300: past the end on the way only.
        self.assertEqual(sum_of(q(8, 0), 8, [T, 1] * 3, [u(8, 0), 200, u(8, 0), 200, q(16, 0), 65536 - 300]), [0, 0, 100])

    def test_sums_that_come_to_nought(self):
        for f in SOME_FORMATS:
            for how in hows_of(f):
                self.assertEqual(sum_of(f, how, [q(8, 0), 255, T, 1], [F32, 0x3DCCCCCD, F32, 0x3DCCCCCD]), [0, 0, 0])
                self.assertEqual(sum_of(f, how, [q(8, 0), 255, T, 0], [F32, 0, F32, 0x3DCCCCCD]), [0, 0, 0])

    def test_least_and_greatest_products(self):
        # 2^-2148, far below what f64 can tell.
        self.assertEqual(sum_of(F64, 8, [F64, 1], [F64, 1]), [0, 1, 0])
        self.assertEqual(sum_of(F64, 10, [F64, 1], [F64, 1]), [0, 1, 1])
        self.assertEqual(sum_of(F64, 11, [F64, 1], [F64, 2 ** 63 + 1]), [0, 1, 2 ** 63 + 1])
        greatest = 0x7FEFFFFFFFFFFFFF
        self.assertEqual(sum_of(F64, 9, [F64, greatest] * 64, [F64, greatest] * 64), [0, 5, greatest])
        # The greatest twice and once taken away, in the midst of 64 pairs.
        weights = [T, 1] * 62 + [T, 1, q(8, 0), 255]
        numbers = [F64, greatest] + [T, 0] * 30 + [F64, greatest] + [T, 0] * 31 + [F64, greatest]
        self.assertEqual(sum_of(F64, 8, weights, numbers), [0, 0, greatest])

    def test_64_pairs_and_more(self):
        self.assertEqual(sum_of(u(8, 0), 0, [T, 1] * 64, [T, 1] * 64), [0, 0, 64])
        self.assertEqual(sum_of(u(8, 0), 0, [T, 1] * 63, [T, 1] * 63), [0, 0, 63])
        for count in (65, 66, 100, 1000):
            self.assertEqual(sum_of(u(8, 0), 0, [T, 1] * count, [T, 1] * count), [-1], count)

    def test_odd_lengths(self):
        for count in (1, 3, 5, 63, 127, 129, 131):
            entries = ([T, 1] * 70)[:count]
            self.assertEqual(sum_of(u(8, 0), 0, entries, list(entries)), [-1], count)
        for entries in ([T], [1], [0], [q(8, 0)]):
            self.assertEqual(sum_of(T, 0, entries, entries), [-1])

    def test_unlike_lengths(self):
        for weights, numbers in (([T, 1], []), ([], [T, 1]), ([T, 1], [T]), ([T], [T, 1]), ([T, 1] * 2, [T, 1]), ([T, 1], [T, 1] * 2),
                                 ([T, 1] * 64, [T, 1] * 63), ([T, 1] * 63, [T, 1] * 64), ([T, 1] * 64, [T, 1] * 65),
                                 ([], [T]), ([T], []), ([T, 1, T], [T, 1]), ([T, 1], [T, 1, T])):
            self.assertEqual(sum_of(u(8, 0), 0, weights, numbers), [-1], (weights, numbers))

    def test_wrong_entries_at_each_place(self):
        wrong = [(code, 0) for code in WRONG_CODES] + [
            (T, 2), (T, -1), (q(8, 0), 256), (q(8, 0), -1), (u(64, 0), 2 ** 64), (F32, 0x80000000), (F32, 0x7F800000),
            (F64, 2 ** 63), (F64, 0xFFF0000000000000), (F64, 2 ** 65)]
        for code, raw in wrong:
            for place in (0, 2, 4):
                entries = [T, 1] * 3
                entries[place:place + 2] = [code, raw]
                self.assertEqual(sum_of(u(8, 0), 0, entries, [T, 1] * 3), [-1], (code, raw, place))
                self.assertEqual(sum_of(u(8, 0), 0, [T, 1] * 3, entries), [-1], (code, raw, place))
                self.assertEqual(sum_of(u(8, 0), 0, entries, [T, 0] * 3), [-1], (code, raw, place))

    def test_last_of_64_pairs_is_asked_too(self):
        self.assertEqual(sum_of(u(8, 0), 0, [T, 1] * 63 + [T, 2], [T, 1] * 64), [-1])
        self.assertEqual(sum_of(u(8, 0), 0, [T, 1] * 64, [T, 1] * 63 + [7, 0]), [-1])

    def test_formats_of_every_kind_by_search(self):
        source = random.Random(12)
        raws = {code: good_raws_about(code) for code in SOME_FORMATS}

        def entries(count):
            found = []
            for _ in range(count):
                code = source.choice(SOME_FORMATS)
                found += [code, source.choice(raws[code])]
            return found

        for f in SOME_FORMATS:
            for how in hows_of(f):
                for _ in range(6 if f in FLOATS else 15):
                    count = source.choice((1, 2, 3, 10, 64))
                    weights, numbers = entries(count), entries(count)
                    self.assertEqual(sum_of(f, how, weights, numbers), expected(f, how, weights, numbers), (f, how, weights, numbers))

    def test_small_formats_by_search(self):
        source = random.Random(13)
        for how in ALL_HOWS:
            for _ in range(100):
                count = source.randrange(1, 5)
                weights = [number for _ in range(count) for number in (q(8, 6), source.randrange(256))]
                numbers = [number for _ in range(count) for number in (q(8, 5), source.randrange(256))]
                self.assertEqual(sum_of(q(8, 3), how, weights, numbers), expected(q(8, 3), how, weights, numbers))

    def test_wrong_hows_and_codes(self):
        for f in SOME_FORMATS:
            for how in wrong_hows_of(f):
                self.assertEqual(sum_of(f, how, [], []), [-1], (f, how))
                self.assertEqual(sum_of(f, how, [T, 1], [T, 1]), [-1], (f, how))
        for code in WRONG_CODES:
            self.assertEqual(sum_of(code, 8, [], []), [-1], code)

    def test_plain_answers(self):
        for arguments in ((F64, 8, [T, 1], [F32, 5]), (u(8, 0), 3, [], []), (T, 2, [T], [T]), (q(8, 0), 0, [T, 1] * 66, [T, 1] * 66),
                          (q(8, 0), 0, [T, 1] * 64, [T, 1] * 64), (F32, 0, [], [])):
            check_plain_answers(self, sum_of, *arguments)


if __name__ == "__main__":
    unittest.main()

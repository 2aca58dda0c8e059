"""Promise 13: table."""

import random
import unittest

from exactraws.formats import table, turn

from helper import ALL_HOWS, F32, F64, FLOATS, SOME_FORMATS, T, WRONG_CODES, Exactly
from helper import check_plain_answers, good_raws_about, hows_of, put_by_search, q, u, value, wrong_hows_of

Q8 = q(8, 0)


def looked_up(x, points):
    """What stands at x among points of x and y: by the weights of both ends, not by the slope."""
    if x <= points[0][0]:
        return points[0][1]
    if x >= points[-1][0]:
        return points[-1][1]
    for (x0, y0), (x1, y1) in zip(points, points[1:]):
        if x0 <= x < x1:
            return (y0 * (x1 - x) + y1 * (x - x0)) / (x1 - x0)


def expected(c, r, xc, yc, f, how, xs, ys):
    points = [(value(xc, x), value(yc, y)) for x, y in zip(xs, ys)]
    if any(now[0] >= later[0] for now, later in zip(points, points[1:])):
        return [-9]
    return [0] + put_by_search(Exactly(looked_up(value(c, r), points)), f, how)


class Table(unittest.TestCase):
    def test_one_point(self):
        for r in (0, 1, 5, 127, 128, 255):
            for how in ALL_HOWS:
                self.assertEqual(table(Q8, r, Q8, Q8, Q8, how, [5], [200]), [0, 0, 200], (r, how))
        self.assertEqual(table(T, 1, F64, F64, F32, 10, [1], [1]), [0, 1, 1])

    def test_two_points(self):
        # From (-2, 10) to (2, -10).
        for r, answer in ((128, 10), (253, 10), (254, 10), (255, 5), (0, 0), (1, 251), (2, 246), (3, 246), (127, 246)):
            self.assertEqual(table(Q8, r, Q8, Q8, Q8, 0, [254, 2], [10, 246]), [0, 0, answer], r)

    def test_at_and_between_the_points(self):
        xs, ys = [10, 20, 40], [0, 100, 20]
        for r, answer in ((0, 0), (9, 0), (10, 0), (11, 10), (15, 50), (19, 90), (20, 100), (21, 96), (30, 60), (39, 24), (40, 20), (41, 20),
                          (127, 20), (255, 0)):
            self.assertEqual(table(Q8, r, Q8, Q8, Q8, 0, xs, ys), [0, 0, answer], r)

    def test_put_once(self):
        # A third of the way from 0 to 1; two thirds to -1.
        for mode, answers in enumerate(((0, 255), (0, 0), (1, 0), (0, 255), (0, 255))):
            self.assertEqual(table(Q8, 1, Q8, Q8, Q8, mode, [0, 3], [0, 1]), [0, 1, answers[0]], mode)
            self.assertEqual(table(Q8, 2, Q8, Q8, Q8, mode, [0, 3], [0, 255]), [0, 1, answers[1]], mode)
        self.assertEqual(table(Q8, 1, Q8, Q8, F64, 8, [0, 3], [0, 1]), [0, 1, 0x3FD5555555555555])
        # Half of 1 and half of 2, ties in whole numbers.
        self.assertEqual(table(Q8, 1, Q8, Q8, Q8, 0, [0, 2], [0, 1]), [0, 1, 0])
        self.assertEqual(table(Q8, 1, Q8, Q8, Q8, 4, [0, 2], [0, 1]), [0, 1, 1])
        self.assertEqual(table(Q8, 1, Q8, Q8, Q8, 0, [0, 2], [1, 2]), [0, 1, 2])

    def test_ends_are_held_or_wrapped_at_the_end_alone(self):
        self.assertEqual(table(u(8, 0), 50, u(8, 0), u(8, 0), Q8, 8, [0, 100], [0, 255]), [0, 5, 127])
        self.assertEqual(table(u(8, 0), 60, u(8, 0), u(8, 0), Q8, 0, [0, 100], [0, 255]), [0, 4, 153])
        self.assertEqual(table(u(8, 0), 40, u(8, 0), u(8, 0), Q8, 0, [0, 100], [0, 255]), [0, 0, 102])

    def test_into_t(self):
        self.assertEqual(table(Q8, 1, Q8, Q8, T, 0, [0, 100], [0, 1]), [0, 0, 1])
        self.assertEqual(table(Q8, 0, Q8, Q8, T, 0, [255, 1], [255, 1]), [0, 0, 0])

    def test_float_points_far_apart(self):
        greatest, least = 0x7FEFFFFFFFFFFFFF, 0xFFEFFFFFFFFFFFFF
        for how in ALL_HOWS[5:]:
            self.assertEqual(table(T, 0, F64, F64, F64, how, [least, greatest], [least, greatest]), [0, 0, 0])
            self.assertEqual(table(F64, 1, F64, F64, F64, how, [least, greatest], [least, greatest]), [0, 0, 1])
            self.assertEqual(table(F64, 1, F64, F64, F64, how, [0, 2], [0, greatest]), [0, 0, greatest - 2 ** 52])

    def test_256_points_and_more(self):
        raws = list(range(256))
        for r in range(0, 1024, 7):
            self.assertEqual(table(q(16, 2), r, u(8, 0), u(8, 0), q(16, 2), 0, raws, raws), [0, 0, min(r, 1020)], r)
        for count in (257, 258, 260, 300):
            raws = list(range(count))
            self.assertEqual(table(Q8, 0, q(16, 0), q(16, 0), Q8, 0, raws, raws), [-1], count)
            self.assertEqual(table(Q8, 0, q(16, 0), q(16, 0), Q8, 0, raws[::-1], raws), [-1], count)

    def test_no_points_and_unlike_lengths(self):
        for xs, ys in (([], []), ([1], []), ([], [1]), ([1, 2], [1]), ([1], [1, 2]), ([1, 2, 3], [1, 2]), ([2, 1], [1]), ([1, 1], [1]),
                       (list(range(256)), list(range(255))), (list(range(255)), list(range(256)))):
            self.assertEqual(table(Q8, 0, u(8, 0), u(8, 0), Q8, 0, xs, ys), [-1], (xs, ys))

    def test_x_that_stays_or_falls(self):
        for xs in ([1, 1], [2, 1], [1, 2, 2], [1, 2, 1], [1, 1, 2], [3, 2, 4], [0, 255], [127, 128], [1, 5, 3, 7], [1, 2, 3, 4, 4]):
            for r in (0, 1, 2, 100, 200):
                self.assertEqual(table(Q8, r, Q8, Q8, Q8, 0, xs, [0] * len(xs)), [-9], (r, xs))
        # By what they are worth, not by their raws.
        self.assertEqual(table(Q8, 0, Q8, Q8, Q8, 0, [128, 255, 0, 127], [1, 2, 3, 4]), [0, 0, 3])
        self.assertEqual(table(Q8, 0, F32, Q8, Q8, 0, [0x80000002, 0x80000001, 0, 1], [1, 2, 3, 4]), [0, 0, 3])
        self.assertEqual(table(Q8, 0, F32, Q8, Q8, 0, [0x80000001, 0x80000002], [1, 2]), [-9])
        raws = list(range(256))
        self.assertEqual(table(Q8, 0, u(8, 0), u(8, 0), Q8, 0, raws[:255] + [254], raws), [-9])

    def test_y_may_stay_or_fall(self):
        self.assertEqual(table(Q8, 5, Q8, Q8, Q8, 0, [0, 10, 20], [7, 7, 0]), [0, 0, 7])

    def test_wrong_arguments_go_before_x_that_falls(self):
        wrong = ((Q8, 256), (Q8, -1), (F32, 0x80000000), (F32, 0x7F800000), (F64, 2 ** 63), (F64, -1), (T, 2), (u(64, 0), 2 ** 64))
        for code, raw in wrong:
            for place in range(3):
                raws = [0, 0, 0]
                raws[place] = raw
                self.assertEqual(table(Q8, 0, code, Q8, Q8, 8, raws, [0, 0, 0]), [-1], (code, raw, place))
                self.assertEqual(table(Q8, 0, Q8, code, Q8, 8, [0, 0, 0], raws), [-1], (code, raw, place))
                self.assertEqual(table(Q8, 0, Q8, code, Q8, 8, [0, 1, 2], raws), [-1], (code, raw, place))
            self.assertEqual(table(code, raw, Q8, Q8, Q8, 8, [2, 1], [0, 0]), [-1], (code, raw))
            self.assertEqual(table(code, raw, Q8, Q8, Q8, 8, [1, 2], [0, 0]), [-1], (code, raw))
        self.assertEqual(table(Q8, 0, Q8, Q8, F32, 0, [2, 1], [0, 0]), [-1])
        self.assertEqual(table(Q8, 0, Q8, Q8, Q8, 5, [2, 1], [0, 0]), [-1])
        self.assertEqual(table(Q8, 0, Q8, Q8, Q8, 8, [2, 1], [0]), [-1])
        self.assertEqual(table(Q8, 0, Q8, Q8, Q8, 8, [2, 1], [0, 0]), [-9])

    def test_wrong_codes_and_hows(self):
        for code in WRONG_CODES:
            for xs in ([0], [0, 0]):
                ys = [0] * len(xs)
                self.assertEqual(table(code, 0, T, T, T, 8, xs, ys), [-1], code)
                self.assertEqual(table(T, 0, code, T, T, 8, xs, ys), [-1], code)
                self.assertEqual(table(T, 0, T, code, T, 8, xs, ys), [-1], code)
                self.assertEqual(table(T, 0, T, T, code, 8, xs, ys), [-1], code)
        for f in SOME_FORMATS:
            for how in wrong_hows_of(f):
                self.assertEqual(table(T, 0, T, T, f, how, [0], [1]), [-1], (f, how))

    def test_small_formats_by_search(self):
        source = random.Random(13)
        for how in ALL_HOWS:
            for _ in range(60):
                count = source.randrange(1, 12)
                xs = sorted(source.sample(range(256), count), key=lambda raw: value(q(8, 3), raw))
                ys = [source.randrange(256) for _ in xs]
                for r in range(0, 256, 17):
                    arguments = (q(8, 2), r, q(8, 3), q(8, 4), q(8, 5), how, xs, ys)
                    self.assertEqual(table(*arguments), expected(*arguments), arguments)

    def test_formats_of_every_kind_by_search(self):
        source = random.Random(14)
        raws = {code: good_raws_about(code) for code in SOME_FORMATS}
        for f in SOME_FORMATS:
            for how in hows_of(f):
                for _ in range(8 if f in FLOATS else 20):
                    c, xc, yc = (source.choice(SOME_FORMATS) for _ in range(3))
                    xs = sorted(source.sample(raws[xc], source.randrange(1, len(raws[xc]) + 1)), key=lambda raw: value(xc, raw))
                    ys = [source.choice(raws[yc]) for _ in xs]
                    arguments = (c, source.choice(raws[c]), xc, yc, f, how, xs, ys)
                    self.assertEqual(table(*arguments), expected(*arguments), arguments)

    def test_at_each_x_stands_its_y(self):
        source = random.Random(15)
        for xc in (Q8, u(32, 31), F32, F64):
            xs = sorted(good_raws_about(xc), key=lambda raw: value(xc, raw))
            ys = [source.choice(good_raws_about(F64)) for _ in xs]
            for x, y in zip(xs, ys):
                self.assertEqual(table(xc, x, xc, F64, F32, 8, xs, ys), turn(F64, y, F32, 8), (xc, x))

    def test_plain_answers(self):
        for arguments in ((Q8, 1, Q8, Q8, Q8, 0, [0, 3], [0, 1]), (T, 1, T, T, T, 0, [], []), (T, 1, T, T, T, 0, [1, 0], [0, 1]),
                          (Q8, 1, F64, F64, F64, 8, [0, 3], [3, 0])):
            check_plain_answers(self, table, *arguments)


if __name__ == "__main__":
    unittest.main()

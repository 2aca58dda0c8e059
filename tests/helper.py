"""For the tests: the table of formats, apart from the program's own reckoning, and what holds of every call."""

import copy

WIDTHS = (8, 16, 32, 64)


def every_format():
    """Each format's name and code: 1 of t, 124 of q, 124 of u, 2 floats."""
    table = {"t": 2048, "f32": 204800, "f64": 212992}
    for letter, start in (("q", 65536), ("u", 131072)):
        for width in WIDTHS:
            for point in range(width + 1):
                table["%s%d_%d" % (letter, width, point)] = start + width * 256 + point
    return table


# Codes that are no format's, each near one that is, or far from all.
WRONG_CODES = (
    0, 1, 8, 32, 64, 2047, 2049, 2056, 4096, 8192, 16384,
    -1, -6, -2048, -67584, -133120, -204800, -212992, -2147483648, -2147483647,
    65536, 65536 + 8, 65536 + 7 * 256, 65536 + 9 * 256, 65536 + 8 * 256 + 9, 65536 + 8 * 256 + 255,
    65536 + 16 * 256 + 17, 65536 + 24 * 256, 65536 + 32 * 256 + 33, 65536 + 64 * 256 + 65, 65536 + 65 * 256,
    65536 + 128 * 256, 65536 + 255 * 256 + 255,
    131072, 131072 + 7 * 256, 131072 + 8 * 256 + 9, 131072 + 16 * 256 + 17, 131072 + 32 * 256 + 33,
    131072 + 64 * 256 + 65, 131072 + 128 * 256,
    196608, 196608 + 8 * 256, 196608 + 16 * 256, 204799, 204801, 204800 + 32, 212991, 212993, 212992 + 64,
    262144 + 8 * 256, 262144 + 32 * 256, 65536 * 256 + 65536 + 8 * 256, 2147483646, 2147483647,
    2 ** 31 + 2048, 2 ** 32 + 2048, 2 ** 32 + 204800, 2 ** 64 + 65536 + 2048, -(2 ** 32) + 2048, 10 ** 100, -(10 ** 100),
)


def as_bytes(text):
    return list(text.encode("latin-1"))


def check_plain_answers(case, call, *arguments):
    """Whole numbers in a list are given back, nothing handed in is changed, and nothing is kept until the next time."""
    handed = copy.deepcopy(arguments)
    first = call(*handed)
    case.assertEqual(handed, arguments)
    case.assertIs(type(first), list)
    for number in first:
        case.assertIs(type(number), int)
    kept = list(first)
    first.append(99)
    case.assertEqual(call(*handed), kept)
    case.assertEqual(handed, arguments)

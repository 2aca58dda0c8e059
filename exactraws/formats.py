"""The calls. Each gives back one list: a refusal's number alone, or 0 and the answer behind it."""

from exactraws.codes import FLOAT, greatest_raw, is_format, kind_of, least_raw
from exactraws.names import NO_CODE, code_named, name_bytes
from exactraws.numerals import NoNumber, read_number, written
from exactraws.operations import is_operation, put_operation
from exactraws.putting import may_put, put_ratio
from exactraws.ratios import Ratio, is_less, lowest, power_of_ten
from exactraws.raws import fits_width, handed, is_good, is_raw, worth_of
from exactraws.roots import put_root
from exactraws.shorts import short_text
from exactraws.sums import may_sum, weighted_sum
from exactraws.tables import looked_up, may_look_up, rise, worths_of

WRONG_ARGUMENT = -1
NO_SUCH_TEXT = -6
NOT_FITTING = -9

# Numbers handed to put have at most this many digits.
MOST_DIGITS = 700

MOST_BYTES = 64

LESS = 1
SAME = 2
MORE = 3


def format_of(text):
    c = code_named(text)
    if c == NO_CODE:
        return [NO_SUCH_TEXT]
    return [0, c]


def name(c):
    if not is_format(c):
        return [WRONG_ARGUMENT]
    return [0] + name_bytes(c)


def ends(c):
    if not is_format(c):
        return [WRONG_ARGUMENT]
    return [0, least_raw(c), greatest_raw(c)]


def good(c, r):
    if not is_format(c):
        return [WRONG_ARGUMENT]
    return [0, 1 if is_good(c, r) else 0]


def hand(c, bits):
    if not (is_format(c) and fits_width(c, bits)):
        return [WRONG_ARGUMENT]
    return [0] + handed(c, bits)


def worth(c, r):
    if not is_raw(c, r):
        return [WRONG_ARGUMENT]
    x = lowest(worth_of(c, r))
    return [0, x.top, x.bottom]


def order(c, r, d, s):
    if not (is_raw(c, r) and is_raw(d, s)):
        return [WRONG_ARGUMENT]
    x = worth_of(c, r)
    y = worth_of(d, s)
    if is_less(x, y):
        return [0, LESS]
    return [0, MORE if is_less(y, x) else SAME]


def turn(c, r, f, how):
    if not (is_raw(c, r) and may_put(f, how)):
        return [WRONG_ARGUMENT]
    return [0] + put_ratio(worth_of(c, r), f, how)


def two(op, c, r, d, s, f, how):
    if not (is_operation(op) and is_raw(c, r) and is_raw(d, s) and may_put(f, how)):
        return [WRONG_ARGUMENT]
    return [0] + put_operation(op, worth_of(c, r), worth_of(d, s), f, how)


def root(c, r, f, how):
    if not (is_raw(c, r) and may_put(f, how)):
        return [WRONG_ARGUMENT]
    return [0] + put_root(worth_of(c, r), f, how)


def put(a, b, f, how):
    limit = power_of_ten(MOST_DIGITS)
    if not (abs(a) < limit and 0 < b < limit and may_put(f, how)):
        return [WRONG_ARGUMENT]
    return [0] + put_ratio(Ratio(a, b), f, how)


def sum_of(f, how, weights, numbers):
    if not (may_put(f, how) and may_sum(weights, numbers)):
        return [WRONG_ARGUMENT]
    return [0] + put_ratio(weighted_sum(weights, numbers), f, how)


def table(c, r, xc, yc, f, how, xs, ys):
    if not (is_raw(c, r) and may_put(f, how) and may_look_up(xc, yc, xs, ys)):
        return [WRONG_ARGUMENT]
    places = worths_of(xc, xs)
    if not rise(places):
        return [NOT_FITTING]
    return [0] + put_ratio(looked_up(worth_of(c, r), places, worths_of(yc, ys)), f, how)


def read(f, how, text):
    if not may_put(f, how) or len(text) > MOST_BYTES:
        return [WRONG_ARGUMENT]
    try:
        x = read_number(text)
    except NoNumber as fault:
        return [NO_SUCH_TEXT, fault.place]
    return [0] + put_ratio(x, f, how)


def write(c, r):
    if not is_raw(c, r):
        return [WRONG_ARGUMENT]
    return [0] + written(worth_of(c, r))


def short(c, r):
    if not is_raw(c, r):
        return [WRONG_ARGUMENT]
    if kind_of(c) != FLOAT:
        return [NOT_FITTING]
    return [0] + short_text(c, r)

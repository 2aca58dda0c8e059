"""Putting a quotient into a format: each gives back flags and a raw."""

from exactraws.codes import FLOAT, FRACTION_BITS, LOWEST_PLACES, TRUTH
from exactraws.codes import greatest_raw, is_format, kind_of, least_raw, point_of, sign_bit, width_of
from exactraws.flags import HELD, INEXACT
from exactraws.raws import steps_of
from exactraws.rounding import is_mode, is_whole, leading_place, quarters, rounded


def mode_of(how):
    return how % 8


def holds(how):
    """Whether what lies past the ends is held there; else it's wrapped."""
    return how >= 8


def may_put(f, how):
    """Whether f is a format's code and this how may be with it."""
    if not (is_format(f) and 0 <= how <= 15 and is_mode(mode_of(how))):
        return False
    return kind_of(f) != FLOAT or holds(how)


def end_raw(f, below):
    return least_raw(f) if below else greatest_raw(f)


def put_ratio(x, f, how):
    kind = kind_of(f)
    if kind == TRUTH:
        return [0, 0 if x.top == 0 else 1]
    if kind == FLOAT:
        return put_float(x, f, mode_of(how))
    return put_fixed(x, f, how)


def put_fixed(x, f, how):
    below = x.top < 0
    size = quarters(x, -point_of(f))
    steps = rounded(size, mode_of(how), below)
    if below:
        steps = -steps
    flags = 0 if is_whole(size) else INEXACT
    raw = steps % (1 << width_of(f))
    if steps_of(f, least_raw(f)) <= steps <= steps_of(f, greatest_raw(f)):
        return [flags, raw]
    if holds(how):
        return [INEXACT + HELD, end_raw(f, below)]
    return [flags + HELD, raw]


def put_float(x, f, mode):
    if x.top == 0:
        return [0, 0]
    below = x.top < 0
    fraction_bits = FRACTION_BITS[width_of(f)]
    lowest_place = -LOWEST_PLACES[width_of(f)]
    place = max(leading_place(x) - fraction_bits, lowest_place)
    size = quarters(x, place)
    # The leading bit, where there is one, adds 1 to the exponent's bits; rounding up to 2 to a power carries into them.
    raw = rounded(size, mode, below) + ((place - lowest_place) << fraction_bits)
    if raw > greatest_raw(f):
        return [INEXACT + HELD, end_raw(f, below)]
    if below and raw > 0:
        raw += sign_bit(f)
    return [0 if is_whole(size) else INEXACT, raw]

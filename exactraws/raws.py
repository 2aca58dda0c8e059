"""Raws: which are good, what handed bits become, and what a raw is worth."""

from exactraws.codes import FLOAT, FRACTION_BITS, LOWEST_PLACES, SIGNED, TRUTH
from exactraws.codes import greatest_raw, infinity_raw, is_format, kind_of, least_raw, point_of, sign_bit, width_of
from exactraws.flags import HELD
from exactraws.ratios import Ratio


def fits_width(c, bits):
    return 0 <= bits < (1 << width_of(c))


def is_raw(c, r):
    """Whether c is a format's code and r a good raw of it."""
    return is_format(c) and is_good(c, r)


def is_good(c, r):
    if not fits_width(c, r):
        return False
    kind = kind_of(c)
    if kind == TRUTH:
        return r <= 1
    if kind == FLOAT:
        return r != sign_bit(c) and r % sign_bit(c) < infinity_raw(c)
    return True


def handed(c, bits):
    """The flags and the good raw that bits of the format's width become."""
    kind = kind_of(c)
    if kind == TRUTH:
        return [0, min(bits, 1)]
    if kind == FLOAT:
        return handed_float(c, bits)
    return [0, bits]


def handed_float(c, bits):
    size = bits % sign_bit(c)
    if size == 0:
        return [0, 0]
    if size < infinity_raw(c):
        return [0, bits]
    if size > infinity_raw(c):
        return [HELD, 0]
    return [HELD, least_raw(c) if bits > size else greatest_raw(c)]


def steps_of(c, r):
    """How often 2 to the power -F a raw of q or u is worth."""
    if kind_of(c) == SIGNED and r >= sign_bit(c):
        return r - (1 << width_of(c))
    return r


def float_worth(c, r):
    size = r % sign_bit(c)
    fraction_bits = FRACTION_BITS[width_of(c)]
    steps = size % (1 << fraction_bits)
    place = -LOWEST_PLACES[width_of(c)]
    exponent = size >> fraction_bits
    # Numbers below the normal ones have no leading bit beside their fraction, and the least normal ones' place.
    if exponent > 0:
        steps += 1 << fraction_bits
        place += exponent - 1
    if r > size:
        steps = -steps
    if place >= 0:
        return Ratio(steps << place, 1)
    return Ratio(steps, 1 << -place)


def worth_of(c, r):
    if kind_of(c) == FLOAT:
        return float_worth(c, r)
    return Ratio(steps_of(c, r), 1 << point_of(c))

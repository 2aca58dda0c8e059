"""What a format's code says: its kind, W and F, and the raws of its ends."""

TRUTH = 0
SIGNED = 1
UNSIGNED = 2
FLOAT = 3

T = 2048
F32 = 204800
F64 = 212992

WIDTHS = (8, 16, 32, 64)
FRACTION_BITS = {32: 23, 64: 52}

# No bit of a float lies below 2 to the power of minus this.
LOWEST_PLACES = {32: 149, 64: 1074}


def kind_of(c):
    return c // 65536


def width_of(c):
    """The W of a code."""
    return c // 256 % 256


def point_of(c):
    """The F of a code."""
    return c % 256


def is_format(c):
    if c in (T, F32, F64):
        return True
    if kind_of(c) not in (SIGNED, UNSIGNED):
        return False
    return width_of(c) in WIDTHS and point_of(c) <= width_of(c)


def sign_bit(c):
    return 1 << (width_of(c) - 1)


def infinity_raw(c):
    """The bits of a float's infinity above 0: all of the exponent's are set, and no others."""
    return sign_bit(c) - (1 << FRACTION_BITS[width_of(c)])


def greatest_raw(c):
    kind = kind_of(c)
    if kind == SIGNED:
        return sign_bit(c) - 1
    if kind == UNSIGNED:
        return (1 << width_of(c)) - 1
    if kind == FLOAT:
        # Raws of floats above 0 lie in the order of their worth, so the last finite one is next to infinity.
        return infinity_raw(c) - 1
    return 1


def least_raw(c):
    kind = kind_of(c)
    if kind == SIGNED:
        return sign_bit(c)
    if kind == FLOAT:
        return sign_bit(c) + greatest_raw(c)
    return 0

"""The root of what a raw is worth."""

from exactraws.flags import BY_NOUGHT
from exactraws.putting import put_ratio
from exactraws.ratios import Ratio

# All raws of all formats, and the middles between two neighbours, are worth multiples of 2 to the power of minus this.
FINEST_PLACE = 1075


def whole_root(n):
    """The greatest whole number whose square is no more than n; n is not below 0."""
    if n == 0:
        return 0
    root = 1 << ((n.bit_length() + 1) // 2)
    while True:
        # From above the root, each mean is less than the one before until the root is reached.
        mean = (root + n // root) // 2
        if mean >= root:
            return root
        root = mean


def root_or_like(x):
    """The root of x, which is not below 0, or a quotient that is put into every format as the root is."""
    square = Ratio(x.top << (2 * FINEST_PLACE), x.bottom)
    steps = whole_root(square.top // square.bottom)
    # A root between two steps is put like the middle of both: nothing that rounding asks for lies between them.
    between = 0 if steps * steps * square.bottom == square.top else 1
    return Ratio(2 * steps + between, 2 << FINEST_PLACE)


def put_root(x, f, how):
    """The flags and the raw of the root of x."""
    if x.top < 0:
        return [BY_NOUGHT, 0]
    return put_ratio(root_or_like(x), f, how)

"""Quotients of whole numbers, exactly."""


class Ratio:
    """A quotient. Its bottom is above 0; its terms need not be the lowest."""

    def __init__(self, top, bottom):
        self.top = top
        self.bottom = bottom


def common_divisor(a, b):
    """The greatest whole number that divides both; neither is below 0."""
    while b != 0:
        rest = a % b
        a = b
        b = rest
    return a


def lowest(x):
    """The same in lowest terms."""
    divisor = common_divisor(abs(x.top), x.bottom)
    return Ratio(x.top // divisor, x.bottom // divisor)

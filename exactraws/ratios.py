"""Quotients of whole numbers, exactly."""


# The bottom is above 0, so that the top alone has the sign; the terms need not be the lowest.
class Ratio:
    def __init__(self, top, bottom):
        self.top = top
        self.bottom = bottom


def common_divisor(a, b):
    """The greatest whole number that divides both; neither is below 0."""
    while b != 0:
        rest = a % b
        a = b
        b = rest
    return a


def lowest(x):
    """The same in lowest terms."""
    divisor = common_divisor(abs(x.top), x.bottom)
    return Ratio(x.top // divisor, x.bottom // divisor)


def plus(x, y):
    # By what both have in common, sums of what raws are worth keep the bottom of the finest of them.
    common = common_divisor(x.bottom, y.bottom)
    bottom = x.bottom // common * y.bottom
    return Ratio(x.top * (bottom // x.bottom) + y.top * (bottom // y.bottom), bottom)


def minus(x, y):
    return plus(x, Ratio(-y.top, y.bottom))


def times(x, y):
    return Ratio(x.top * y.top, x.bottom * y.bottom)


def over(x, y):
    """x divided by y, which is not 0."""
    if y.top < 0:
        return Ratio(-x.top * y.bottom, x.bottom * -y.top)
    return Ratio(x.top * y.bottom, x.bottom * y.top)


def is_less(x, y):
    return x.top * y.bottom < y.top * x.bottom


def whole_part(x):
    """x's whole number toward 0."""
    size = abs(x.top) // x.bottom
    return Ratio(-size if x.top < 0 else size, 1)


def power_of_ten(exponent):
    power = 1
    square = 10
    while exponent > 0:
        if exponent % 2 == 1:
            power *= square
        square *= square
        exponent //= 2
    return power

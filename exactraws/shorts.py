"""Floats' raws written short: by the fewest digits that are read as the same raw again."""

from exactraws.digits import NOUGHT, digits_of
from exactraws.flags import INEXACT
from exactraws.numerals import LETTER_E, MINUS, POINT, times_ten_to
from exactraws.putting import put_ratio
from exactraws.ratios import Ratio, over
from exactraws.raws import worth_of

# To the nearest, of two the even one, and held at the ends.
READ_HOW = 8


def leading_ten(x):
    """The power of 10 of the first digit of x, which is above 0."""
    exponent = 0
    low = x.bottom
    while x.top >= 10 * low:
        low *= 10
        exponent += 1
    size = x.top
    while size < low:
        size *= 10
        exponent -= 1
    return exponent


def numbers_about(x, exponent):
    """The whole numbers of this power of 10 below and above x, the nearer one first; of two as near the even one."""
    tens = over(x, times_ten_to(1, exponent))
    low = tens.top // tens.bottom
    twice_rest = tens.top % tens.bottom * 2
    if twice_rest < tens.bottom or (twice_rest == tens.bottom and low % 2 == 0):
        return [low, low + 1]
    return [low + 1, low]


def is_read_as(number, exponent, c, r):
    answer = put_ratio(times_ten_to(number, exponent), c, READ_HOW)
    return answer in ([0, r], [INEXACT, r])


def spelled(number, exponent, below):
    digits = digits_of(number)
    power = exponent + len(digits) - 1
    # Next above 9 stands 10, whose 0 isn't needed.
    while digits[-1] == NOUGHT:
        digits = digits[:-1]
    text = [MINUS] if below else []
    text.append(digits[0])
    if len(digits) > 1:
        text += [POINT] + digits[1:]
    text.append(LETTER_E)
    if power < 0:
        text.append(MINUS)
    return text + digits_of(abs(power))


def short_text(c, r):
    """The bytes of the short text of a float's good raw."""
    x = worth_of(c, r)
    if x.top == 0:
        return [NOUGHT, LETTER_E, NOUGHT]
    below = x.top < 0
    size = Ratio(abs(x.top), x.bottom)
    exponent = leading_ten(size)
    while True:
        # If any number of so many digits is read as r, then one of the two that stand next to r's worth is.
        for number in numbers_about(size, exponent):
            if is_read_as(-number if below else number, exponent, c, r):
                return spelled(number, exponent, below)
        exponent -= 1

"""Numbers' texts: read, with the place where one fails, and written."""

from exactraws.digits import NOUGHT, digits_from, digits_of, number_of
from exactraws.ratios import Ratio, power_of_ten

MOST_DIGITS = 40
MOST_EXPONENT_DIGITS = 3

# The bytes that stand in texts beside digits.
MINUS = 45
POINT = 46
SLASH = 47
LETTER_E = 101


# The refusal of a text that is no number's; the place is that of its fault.
class NoNumber(ValueError):
    def __init__(self, place):
        self.place = place


# How far a text has been read, and for how many digits there still is room.
class Scan:
    def __init__(self, text):
        self.text = text
        self.place = 0
        self.room = MOST_DIGITS


def stands_here(scan, byte):
    return scan.place < len(scan.text) and scan.text[scan.place] == byte


def passes(scan, byte):
    """Goes past this byte, if it stands here."""
    if not stands_here(scan, byte):
        return False
    scan.place += 1
    return True


def passes_before_digit(scan, byte):
    """Goes past this byte, if it stands here and there's room for the digit that it needs behind it."""
    return scan.room > 0 and passes(scan, byte)


def read_digits(scan):
    digits = digits_from(scan.text, scan.place)
    if len(digits) == 0:
        raise NoNumber(scan.place)
    if len(digits) > scan.room:
        raise NoNumber(scan.place + scan.room)
    scan.place += len(digits)
    scan.room -= len(digits)
    return digits


def read_divisor(scan):
    while stands_here(scan, NOUGHT):
        # A nought that takes the last room leaves none for a digit that isn't 0.
        if scan.room == 1:
            raise NoNumber(scan.place)
        scan.place += 1
        scan.room -= 1
    return number_of(read_digits(scan))


def read_exponent(scan):
    if not passes(scan, LETTER_E):
        return 0
    below = passes(scan, MINUS)
    digits = digits_from(scan.text, scan.place)[:MOST_EXPONENT_DIGITS]
    if len(digits) == 0:
        raise NoNumber(scan.place)
    scan.place += len(digits)
    return -number_of(digits) if below else number_of(digits)


def times_ten_to(number, exponent):
    if exponent < 0:
        return Ratio(number, power_of_ten(-exponent))
    return Ratio(number * power_of_ten(exponent), 1)


def read_size(scan):
    digits = read_digits(scan)
    if passes_before_digit(scan, SLASH):
        return Ratio(number_of(digits), read_divisor(scan))
    behind = read_digits(scan) if passes_before_digit(scan, POINT) else []
    return times_ten_to(number_of(digits + behind), read_exponent(scan) - len(behind))


def read_number(text):
    """What the text's number is worth; raises NoNumber."""
    scan = Scan(text)
    below = passes(scan, MINUS)
    size = read_size(scan)
    if scan.place < len(text):
        raise NoNumber(scan.place)
    return Ratio(-size.top, size.bottom) if below else size


def digits_behind_point(rest, bottom):
    """The digits of rest / bottom, which is less than 1 and has but so many of them."""
    digits = []
    while rest > 0:
        digits.append(NOUGHT + rest * 10 // bottom)
        rest = rest * 10 % bottom
    return digits


def written(x):
    """The bytes of the text of x, a multiple of 2 to some power."""
    size = abs(x.top)
    text = [MINUS] if x.top < 0 else []
    text += digits_of(size // x.bottom)
    behind = digits_behind_point(size % x.bottom, x.bottom)
    if len(behind) > 0:
        text += [POINT] + behind
    return text

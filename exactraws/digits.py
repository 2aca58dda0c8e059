"""Whole numbers as decimal digits' bytes, and back."""

NOUGHT = 48


def digits_from(text, start):
    """The run of digits' bytes that begins at this place; it may be empty."""
    stop = start
    while stop < len(text) and NOUGHT <= text[stop] <= NOUGHT + 9:
        stop += 1
    return text[start:stop]


def number_of(digits):
    number = 0
    for digit in digits:
        number = number * 10 + digit - NOUGHT
    return number


def digits_of(number):
    """The digits' bytes of a whole number that's not below 0, without needless noughts."""
    # Not by str: how many digits it makes at most is a setting that may differ from one Python to another.
    digits = [NOUGHT + number % 10]
    while number >= 10:
        number //= 10
        digits.append(NOUGHT + number % 10)
    return list(reversed(digits))

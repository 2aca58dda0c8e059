"""Formats' names as bytes, and the way back from a name to its code."""

from exactraws.codes import FLOAT, TRUTH, is_format, kind_of, point_of, width_of
from exactraws.digits import digits_from, number_of

LETTERS = "tquf"

# What a name's letter gives to the code; W and F, where the name tells them, come on top.
CODE_STARTS = (2048, 65536, 131072, 196608)

NO_CODE = -1


def name_text(c):
    kind = kind_of(c)
    letter = LETTERS[kind]
    width = width_of(c)
    point = point_of(c)
    if kind == TRUTH:
        return letter
    if kind == FLOAT:
        return f"{letter}{width}"
    return f"{letter}{width}_{point}"


def name_bytes(c):
    return [ord(sign) for sign in name_text(c)]


def code_start(letter):
    for kind, start in enumerate(CODE_STARTS):
        if ord(LETTERS[kind]) == letter:
            return start
    return NO_CODE


def likely_code(text):
    """The one code whose name the text may be; a text that is no name may get some code, too."""
    if len(text) == 0:
        return NO_CODE
    start = code_start(text[0])
    if start == NO_CODE:
        return NO_CODE
    width = digits_from(text, 1)
    point = digits_from(text, 2 + len(width))
    return start + number_of(width) * 256 + number_of(point)


def code_named(text):
    """The code of the format with this name, NO_CODE if there is none."""
    c = likely_code(text)
    # The code was read loosely: comparing whole names sees needless noughts and whatever else is wrong.
    if is_format(c) and name_bytes(c) == text:
        return c
    return NO_CODE

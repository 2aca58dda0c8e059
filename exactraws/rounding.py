"""Sizes told in steps of 2 to a power, and rounded to whole steps by a mode.

A size is told in quarters of a step. Rounding only asks whether nothing, less than a half, a half or more than a half
stands beyond whole steps. So what lies strictly between two halves is told as the quarter between them.
"""

from exactraws.ratios import Ratio

NEAREST_EVEN = 0
TOWARD_NOUGHT = 1
UP = 2
DOWN = 3
NEAREST_FAR = 4


def is_mode(mode):
    return NEAREST_EVEN <= mode <= NEAREST_FAR


def in_steps(x, place):
    """The size of x in steps of 2 to the power of this place."""
    if place >= 0:
        return Ratio(abs(x.top), x.bottom << place)
    return Ratio(abs(x.top) << -place, x.bottom)


def leading_place(x):
    """The power of 2 of the size's first bit; x is not 0."""
    place = abs(x.top).bit_length() - x.bottom.bit_length()
    steps = in_steps(x, place)
    return place if steps.top >= steps.bottom else place - 1


def quarters(x, place):
    """The size of x in quarters of a step of 2 to the power of this place."""
    steps = in_steps(x, place)
    halves = 2 * steps.top // steps.bottom
    return 2 * halves + (0 if halves * steps.bottom == 2 * steps.top else 1)


def is_whole(size):
    """Whether a size in quarters is a whole number of steps."""
    return size % 4 == 0


def goes_far(size, mode, below):
    """Whether a size in quarters that isn't whole is rounded away from 0."""
    if mode == TOWARD_NOUGHT:
        return False
    if mode == UP:
        return not below
    if mode == DOWN:
        return below
    if size % 4 != 2:
        return size % 4 == 3
    return mode == NEAREST_FAR or size // 4 % 2 == 1


def rounded(size, mode, below):
    """Whole steps of a size in quarters; below tells whether the number is below 0."""
    if is_whole(size) or not goes_far(size, mode, below):
        return size // 4
    return size // 4 + 1

"""Tables: points by their x's and y's, and straight lines between them."""

from exactraws.codes import is_format
from exactraws.ratios import is_less, minus, over, plus, times
from exactraws.raws import is_good, worth_of

MOST_POINTS = 256


def are_good(c, raws):
    """Whether c is a format's code and these are good raws of it."""
    return is_format(c) and all([is_good(c, r) for r in raws])


def may_look_up(xc, yc, xs, ys):
    if len(xs) != len(ys) or not 1 <= len(xs) <= MOST_POINTS:
        return False
    return are_good(xc, xs) and are_good(yc, ys)


def worths_of(c, raws):
    return [worth_of(c, r) for r in raws]


def rise(worths):
    return all([is_less(worths[place], worths[place + 1]) for place in range(len(worths) - 1)])


def looked_up(x, xs, ys):
    """What stands at x; the x's rise, and there is at least one."""
    if not is_less(xs[0], x):
        return ys[0]
    if not is_less(x, xs[-1]):
        return ys[-1]
    after = 1
    while not is_less(x, xs[after]):
        after += 1
    before = after - 1
    part = over(minus(x, xs[before]), minus(xs[after], xs[before]))
    return plus(ys[before], times(part, minus(ys[after], ys[before])))

"""The operations on two numbers."""

from exactraws.flags import BY_NOUGHT, HELD
from exactraws.putting import end_raw, put_ratio
from exactraws.ratios import is_less, minus, over, plus, times, whole_part

ADD = 0
SUBTRACT = 1
MULTIPLY = 2
DIVIDE = 3
LESSER = 4
GREATER = 5
REST = 6


def is_operation(op):
    return ADD <= op <= REST


def reckoned(op, x, y):
    """What the operation makes of both; y is not 0 where it divides."""
    if op == ADD:
        return plus(x, y)
    if op == SUBTRACT:
        return minus(x, y)
    if op == MULTIPLY:
        return times(x, y)
    if op == DIVIDE:
        return over(x, y)
    if op == LESSER:
        return x if is_less(x, y) else y
    if op == GREATER:
        return y if is_less(x, y) else x
    return minus(x, times(y, whole_part(over(x, y))))


def put_quotient_by_nought(x, f):
    if x.top == 0:
        return [BY_NOUGHT, 0]
    return [BY_NOUGHT + HELD, end_raw(f, x.top < 0)]


def put_rest_by_nought(x, f, how):
    answer = put_ratio(x, f, how)
    return [answer[0] + BY_NOUGHT, answer[1]]


def put_operation(op, x, y, f, how):
    """The flags and the raw of what the operation makes of x and y."""
    if y.top == 0 and op == DIVIDE:
        return put_quotient_by_nought(x, f)
    if y.top == 0 and op == REST:
        return put_rest_by_nought(x, f, how)
    return put_ratio(reckoned(op, x, y), f, how)

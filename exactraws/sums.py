"""Sums of numbers by their weights: lists of codes and raws by turns."""

from exactraws.ratios import Ratio, plus, times
from exactraws.raws import is_raw, worth_of

MOST_PAIRS = 64


def are_raws(entries):
    """Whether each code, with the raw behind it, is a format's and the raw good."""
    return all([is_raw(entries[place], entries[place + 1]) for place in range(0, len(entries), 2)])


def may_sum(weights, numbers):
    count = len(weights)
    if count != len(numbers) or count % 2 != 0 or count > 2 * MOST_PAIRS:
        return False
    return are_raws(weights) and are_raws(numbers)


def weighted_sum(weights, numbers):
    total = Ratio(0, 1)
    for place in range(0, len(weights), 2):
        weight = worth_of(weights[place], weights[place + 1])
        number = worth_of(numbers[place], numbers[place + 1])
        total = plus(total, times(weight, number))
    return total

"""Shares: fractions as lowered tuples (top, bottom), the bottom from 1 on."""

from math import gcd


def share(top, bottom):
    """The share of two numbers, the first perhaps below 0, the second above 0."""
    # gcd(0, bottom) is bottom, so 0 becomes (0, 1) without a case of its own.
    common = gcd(top, bottom)
    return (top // common, bottom // common)


def plus(one, other):
    """The sum of two shares."""
    return share(one[0] * other[1] + other[0] * one[1], one[1] * other[1])


def times(one, number, over):
    """The share one times number over over."""
    return share(one[0] * number, one[1] * over)


def less(one, other):
    """Whether one share is less than the other one."""
    # Both bottoms are above 0, so to multiply by them keeps the order.
    return one[0] * other[1] < other[0] * one[1]


def weighted(rows):
    """The mean of the shares in rows (weight, share), at least one, each counted as often as its weight."""
    total = (0, 1)
    weights = 0
    for weight, one in rows:
        total = plus(total, times(one, weight, 1))
        weights += weight
    return times(total, 1, weights)

"""Exact fractions that are not less than 0: pairs (p, q) of integers that stand for p/q."""

from math import gcd


def reduced(p, q):
    """Returns the fraction in lowest terms."""
    common = gcd(p, q)
    return (p // common, q // common)


def plus(first, second):
    return reduced(first[0] * second[1] + second[0] * first[1], first[1] * second[1])


def minus(first, second):
    return reduced(first[0] * second[1] - second[0] * first[1], first[1] * second[1])


def exceeds(first, second):
    """Tells if the first fraction is greater than the second one."""
    return first[0] * second[1] > second[0] * first[1]


def whole_part(fraction, factor):
    """Returns the product of a fraction and an integer, rounded down."""
    return fraction[0] * factor // fraction[1]

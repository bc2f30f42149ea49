"""Ratios: pairs of integers without a common divisor above 1, the second one positive."""

from math import gcd


def ratio(numerator, denominator):
    """The ratio of two integers, the second one positive."""
    common = gcd(numerator, denominator)
    return (numerator // common, denominator // common)

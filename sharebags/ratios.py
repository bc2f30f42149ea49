"""Ratios: pairs of integers without a common divisor above 1, the second one positive."""

from math import gcd, lcm


def ratio(numerator, denominator):
    """The ratio of two integers, the second one positive."""
    common = gcd(numerator, denominator)
    return (numerator // common, denominator // common)


def common_multiple(numbers):
    """The least integer that each of some positive integers divides."""
    many = 1
    for number in numbers:
        many = lcm(many, number)
    return many

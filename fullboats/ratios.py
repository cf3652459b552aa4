"""Fractions: tuples (numerator, denominator) in lowest terms, with a positive denominator."""

from math import gcd

ZERO = (0, 1)
ONE = (1, 1)


def is_integer(value):
    """Tell whether a value is an integer, which True and False are not."""
    return isinstance(value, int) and not isinstance(value, bool)


def is_fraction(value):
    """Tell whether a value is a fraction."""
    if not isinstance(value, tuple) or len(value) != 2:
        return False
    numerator, denominator = value
    if not is_integer(numerator) or not is_integer(denominator):
        return False
    return denominator > 0 and gcd(numerator, denominator) == 1


def lowest_terms(numerator, denominator):
    """Return the fraction of two integers, the second of which is positive."""
    common = gcd(numerator, denominator)
    return (numerator // common, denominator // common)


def add(one, other):
    """Return the sum of two fractions."""
    return lowest_terms(one[0] * other[1] + other[0] * one[1], one[1] * other[1])


def multiply(fraction, integer):
    """Return a fraction times an integer."""
    return lowest_terms(fraction[0] * integer, fraction[1])


def divide(fraction, integer):
    """Return a fraction divided by a positive integer."""
    return lowest_terms(fraction[0], fraction[1] * integer)


def total(fractions):
    """Return the sum of a list of fractions."""
    result = ZERO
    for fraction in fractions:
        result = add(result, fraction)
    return result

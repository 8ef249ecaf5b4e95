"""Fractions, told as tuples (numerator, denominator)."""

from math import gcd


def lowest_terms(numerator, denominator):
    """The fraction in lowest terms with a positive denominator; the denominator must not be 0."""
    shared = gcd(numerator, denominator)
    if denominator < 0:
        shared = -shared
    return (numerator // shared, denominator // shared)

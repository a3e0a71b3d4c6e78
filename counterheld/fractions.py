"""Fractions: pairs of whole numbers in lowest terms, the second one at least 1."""

from math import gcd, lcm


def fraction(n, d):
    """The fraction n / d, d not 0."""
    shared = gcd(n, d)
    if d < 0:
        shared = -shared
    return (n // shared, d // shared)


def sum_of(one, other):
    return fraction(one[0] * other[1] + other[0] * one[1], one[1] * other[1])


def difference(one, other):
    return fraction(one[0] * other[1] - other[0] * one[1], one[1] * other[1])


def product(one, other):
    return fraction(one[0] * other[0], one[1] * other[1])


def is_less(one, other):
    return one[0] * other[1] < other[0] * one[1]


def common_grid(fractions):
    """The greatest fraction of which all of some fractions above 0 are whole multiples."""
    whole = 1
    for _, d in fractions:
        whole = lcm(whole, d)
    grid = 0
    for n, d in fractions:
        grid = gcd(grid, n * (whole // d))
    return fraction(grid, whole)

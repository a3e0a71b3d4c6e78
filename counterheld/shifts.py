"""Shifts: what raises and paces a row of columns as a whole.

A shift (f, o, n, d) raises by the interval (f, o) and paces by the fraction (n, d).
"""

from math import gcd

# The shift that changes nothing.
STILL = (0, 0, 1, 1)


def both(one, other):
    """The shift that shifts by one and by the other."""
    if one == STILL:
        return other
    if other == STILL:
        return one
    n, d = one[2] * other[2], one[3] * other[3]
    shared = gcd(n, d)
    return (one[0] + other[0], one[1] + other[1], n // shared, d // shared)


def back(shift):
    """The shift that undoes a shift."""
    f, o, n, d = shift
    return (-f, -o, d, n)


def from_to(one, other):
    """The shift by which one becomes other."""
    return STILL if one == other else both(other, back(one))


def often(shift, many):
    """The shift that shifts so many times, from 0 on."""
    told = STILL
    while many > 0 and shift != STILL:
        if many % 2 == 1:
            told = both(told, shift)
        shift = both(shift, shift)
        many = many // 2
    return told


def unpitched(shift):
    """The part of a shift that columns feel in which no voice sounds."""
    return (0, 0, shift[2], shift[3])

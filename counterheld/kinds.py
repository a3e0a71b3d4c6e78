"""What things are: the questions that are asked of arguments that may be anything."""

from math import gcd

# The numbers of a tone or an interval that is handed in lie from -FAR to FAR.
FAR = 1000
# The numerator and the denominator of a duration or a pace that is handed in are at most MOST_PARTS.
MOST_PARTS = 1000


def is_row(thing):
    return isinstance(thing, (list, tuple))


def is_pair(thing):
    return is_row(thing) and len(thing) == 2


def is_number(thing):
    """Whether it is a whole number; True and False are none."""
    return isinstance(thing, int) and not isinstance(thing, bool)


def is_whole(thing, low, high):
    """Whether it is a whole number from low to high."""
    return is_number(thing) and low <= thing <= high


def is_tone(thing):
    """Whether it is a tone, or just as well an interval, as it may be handed in."""
    return is_pair(thing) and all([is_whole(number, -FAR, FAR) for number in thing])


def is_short_fraction(thing):
    """Whether it is a fraction above 0 as it may stand for a duration or a pace that is handed in."""
    if not is_pair(thing) or not all([is_whole(number, 1, MOST_PARTS) for number in thing]):
        return False
    return gcd(thing[0], thing[1]) == 1


def is_fraction(thing):
    """Whether it is a fraction: two whole numbers in lowest terms, the second one at least 1."""
    if not is_pair(thing) or not all([is_number(number) for number in thing]):
        return False
    return thing[1] >= 1 and gcd(thing[0], thing[1]) == 1

"""Whole numbers and fractions as they are written in decimal."""

from math import gcd

DIGITS = "0123456789"


def number_in(text, figures):
    """The whole number that a text of at most so many figures writes, or None."""
    digits = text[1:] if text[:1] == "-" else text
    if not 1 <= len(digits) <= figures or not all([sign in DIGITS for sign in digits]):
        return None
    # A leading zero, and "-0".
    if digits[0] == "0" and text != "0":
        return None
    return int(text)


def fraction_text(fraction):
    """A fraction above 0 as its two numbers with "/" between, or as one number if it is whole."""
    n, d = fraction
    return str(n) if d == 1 else f"{n}/{d}"


def fraction_in(text, figures):
    """The fraction above 0 that a text writes with numbers of at most so many figures, or None."""
    above, _, below = text.partition("/")
    n = number_in(above, figures)
    d = number_in(below, figures)
    if text == above:
        d = 1
    elif d == 1:
        return None
    if n is None or d is None or n < 1 or d < 1 or gcd(n, d) > 1:
        return None
    return (n, d)

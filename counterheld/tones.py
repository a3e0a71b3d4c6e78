"""Tones and intervals by their numbers: pairs of fifths and octaves."""


def steps(interval):
    """How many steps of the scale the interval goes up."""
    f, o = interval
    return 4 * f + 7 * o


def height(interval):
    """How many keys the interval goes up."""
    f, o = interval
    return 7 * f + 12 * o


def added(one, other):
    return (one[0] + other[0], one[1] + other[1])


def opposite(interval):
    return (-interval[0], -interval[1])


def between(one, other):
    """The interval from the tone one up to the tone other."""
    return (other[0] - one[0], other[1] - one[1])


def inverted(interval):
    """The octave less the interval."""
    return (-interval[0], 1 - interval[1])


def simple(interval):
    """The interval of 0 to 6 steps with the same f."""
    return with_steps(interval[0], steps(interval) % 7)


def with_steps(f, many):
    """The interval with this f that goes up so many steps; 4 * f and many are alike modulo 7."""
    return (f, (many - 4 * f) // 7)


def spellings(number, most):
    """The tones of the height number with at most so many signs, ascending by f."""
    low = -7 * most - 1
    # 7 * 7 is 1 modulo 12: all f of the height are 7 * number modulo 12.
    first = low + (7 * number - low) % 12
    return tuple([(f, (number - 7 * f) // 12) for f in range(first, 7 * most + 6, 12)])

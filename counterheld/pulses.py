"""Pulses: moments that come again and again, when they meet, and their beats."""

from math import gcd, lcm

from counterheld.combs import Union, common, many_below
from counterheld.errors import ScoreError
from counterheld.fractions import fraction
from counterheld.kinds import is_fraction, is_pair, is_row

MOST_PULSES = 12


class BadPulse(ScoreError):
    """What is no pulse: its number, or None for too few or too many."""

    def __init__(self, number):
        ScoreError.__init__(self, "no pulse")
        self.number = number


def _in_parts(pulses):
    """The pair of pulses as combs of whole numbers, and how many of the parts in which they count a whole note has.

    Whatever the pulses are, what is none is told by BadPulse.
    """
    if not is_row(pulses) or not 1 <= len(pulses) <= MOST_PULSES:
        raise BadPulse(None)
    parts = 1
    for number, pulse in enumerate(pulses):
        if not is_pair(pulse) or not all([is_fraction(part) for part in pulse]) or pulse[1][0] <= 0:
            raise BadPulse(number)
        parts = lcm(parts, pulse[0][1], pulse[1][1])
    return [(first[0] * parts // first[1], period[0] * parts // period[1]) for first, period in pulses], parts


def _last_part(moment, parts):
    """The first whole number of parts that is not below the moment."""
    return -(-moment[0] * parts // moment[1])


def meeting(pulses):
    """The pulse of their meetings as ("meet", first, period), or the first two that never meet."""
    combs, parts = _in_parts(pulses)
    for one in range(len(combs)):
        for other in range(one + 1, len(combs)):
            if common(combs[one], combs[other]) is None:
                return ("apart", one, other)
    first, period = _shared(combs)
    return ("meet", fraction(first, parts), fraction(period, parts))


def _shared(combs):
    """The comb of what is in all combs, or None."""
    told = combs[0]
    for one in combs[1:]:
        if told is not None:
            told = common(told, one)
    return told


def meetings(pulses, until):
    """How many moments below until there are at which all meet."""
    combs, parts = _in_parts(pulses)
    shared = _shared(combs)
    return 0 if shared is None else many_below(shared, _last_part(until, parts))


def nearest_miss(one, other):
    """The least distance of a moment of the one from a moment of the other, and the first such pair."""
    combs, parts = _in_parts((one, other))
    (first, period), (least, size) = combs
    pairs = []
    shared = gcd(period, size)
    rest = (first - least) % shared
    for ahead in (rest, rest - shared):
        x, _ = common((first, period), (least + ahead, size))
        pairs.append((abs(ahead), min(x, x - ahead), x, x - ahead))
    distance, _, x, y = min(pairs)
    return (fraction(distance, parts), (fraction(x, parts), fraction(y, parts)))


def beat(pulses, number):
    """The pair of the beat of a number, and the numbers of the pulses that have it."""
    combs, parts = _in_parts(pulses)
    at = Union(combs, None).at(number)
    having = [k for k, (first, period) in enumerate(combs) if first <= at and (at - first) % period == 0]
    return (fraction(at, parts), tuple(having))


def beats(pulses, until):
    """How many beats there are below until."""
    combs, parts = _in_parts(pulses)
    return Union(combs, None).below(_last_part(until, parts))


def beats_of(pulses, until, many):
    """How many beats below until are in just so many of the pulses."""
    combs, parts = _in_parts(pulses)
    return Union(combs, many).below(_last_part(until, parts))

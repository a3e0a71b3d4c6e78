"""Combs: the whole numbers first, first + period and so on, told by the pair (first, period), period above 0."""

from math import comb, gcd

# How many numbers at most are looked through one by one.
MOST_LEFT = 60


def inverse_of(number, modulus):
    """What gives 1 modulo the modulus when multiplied with the number, which shares no divisor with the modulus."""
    one, other = number % modulus, modulus
    by, by_other = 1, 0
    while other > 0:
        whole = one // other
        one, other = other, one - whole * other
        by, by_other = by_other, by - whole * by_other
    return by % modulus


def common(one, other):
    """The comb of what is in both combs, or None."""
    first, period = one
    least, size = other
    shared = gcd(period, size)
    if (least - first) % shared != 0:
        return None
    size = size // shared
    # How many periods of the one lead to the first place that would be in both if both went on backwards for ever.
    told = first + period * ((least - first) // shared * inverse_of(period // shared, size) % size)
    period = period * size
    if told < least:
        told += -((told - least) // period) * period
    return (told, period)


def many_below(told, until):
    """How many numbers of a comb are below until."""
    first, period = told
    return max(0, (until - first + period - 1) // period)


class Union:
    """Numbers that are in at least one of some combs, or in just so many of them."""

    def __init__(self, combs, many):
        """Many is None for at least one."""
        self.combs = combs
        # Combs of the numbers that are in several combs, with how often those below a number are to be counted.
        self.terms = self._terms(many)

    def _terms(self, many):
        shared = [(None, 0)]
        for one in self.combs:
            more = []
            for other, size in shared:
                told = one if other is None else common(other, one)
                if told is not None:
                    more.append((told, size + 1))
            shared = shared + more
        told = {}
        for one, size in shared[1:]:
            told[one] = told.get(one, 0) + weight_of(size, many)
        return sorted([(first, period, often) for (first, period), often in told.items() if often != 0])

    def below(self, until):
        """How many of the numbers are below until."""
        told = 0
        for first, period, often in self.terms:
            if first >= until:
                break
            told += often * ((until - first + period - 1) // period)
        return told

    def at(self, number):
        """The number, of those that are in at least one comb, that has so many of them below it."""
        low = min([first for first, _ in self.combs])
        high = min([first + number * period for first, period in self.combs]) + 1
        ahead, passed = 0, self.below(high)
        while passed - ahead > MOST_LEFT:
            # The numbers lie nearly evenly, but for where combs begin; the middle is for where they do not.
            wide = (high - low) * MOST_LEFT // (3 * (passed - ahead)) + 1
            guess = low + (high - low) * (number - ahead) // (passed - ahead)
            for probe in (guess - wide, guess + wide, (low + high) // 2):
                if low < probe < high:
                    many = self.below(probe)
                    if many > number:
                        high, passed = probe, many
                    else:
                        low, ahead = probe, many
        return self._between(low, high)[number - ahead]

    def _between(self, low, high):
        """The numbers that are in at least one comb, from low to below high, ascending."""
        told = []
        for first, period in self.combs:
            least = first + max(0, -((first - low) // period)) * period
            told = told + list(range(least, high, period))
        return sorted(set(told))


def weight_of(size, many):
    """How often what so many combs share counts, for what is in at least one comb, or in just so many."""
    if many is None:
        return 1 if size % 2 == 1 else -1
    if size < many:
        return 0
    return comb(size, many) if (size - many) % 2 == 0 else -comb(size, many)

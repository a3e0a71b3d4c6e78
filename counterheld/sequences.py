"""Sequences: parts of a score that come again and again, each time raised and paced once more."""

from counterheld.fractions import product
from counterheld.matching import Strand, interval_at, matched
from counterheld.moments import check_part, column
from counterheld.primes import primes_of
from counterheld.threads import threads_of
from counterheld.views import plain_view

UNISON = (0, 0)
SAME = (1, 1)


class Part:
    """A part of a score, held against itself."""

    def __init__(self, score, first, stop):
        check_part(score, first, stop)
        threads = threads_of([score])
        self.whole = score
        self.weave = threads.weave
        self.row = threads.of_score(score, plain_view(score.voices))
        self.first = first
        self.size = stop - first

    def shift(self, many):
        """The interval and the pace by which the part would be a sequence of so many columns."""
        if many == self.size:
            return UNISON, SAME
        place = self.first + many
        (n, d), (n_again, d_again) = column(self.whole, self.first)[0], column(self.whole, place)[0]
        return self._interval(many), product((n_again, d_again), (d, n))

    def _interval(self, many):
        strand = Strand(self.weave, self.row, self.first, 1)
        ahead = strand.to_sound()
        if ahead is None or ahead >= self.size - many:
            return UNISON
        at = self.first + ahead
        return interval_at(self.weave, self.row, at, self.row, at + many)

    def is_sequence(self, many, interval, by):
        """Whether the part is a sequence of so many columns by an interval and a pace."""
        row = self.weave.shifted(self.row, interval + by)
        one, other = Strand(self.weave, row, self.first, 1), Strand(self.weave, self.row, self.first + many, 1)
        return matched(one, other) >= self.size - many


def sequence(score, first, stop):
    """The tuple (m, interval, by) of the least m of whose columns the part is a sequence."""
    part = Part(score, first, stop)
    many = part.size
    for prime in primes_of(part.size):
        # What a part is a sequence of is just each multiple of the least one that divides how many columns it has.
        interval, by = part.shift(many // prime)
        if part.is_sequence(many // prime, interval, by):
            many = many // prime
    return (many,) + part.shift(many)


def repeated(score, first, stop):
    """The least m such that the part is m columns again and again, as they are."""
    part = Part(score, first, stop)
    many = part.size
    for prime in primes_of(part.size):
        if part.is_sequence(many // prime, UNISON, SAME):
            many = many // prime
    return many

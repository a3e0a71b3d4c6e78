"""Tempos: the times at which music is played."""

from counterheld.errors import ScoreError
from counterheld.fractions import difference, is_less, product, sum_of
from counterheld.kinds import is_fraction, is_pair, is_row
from counterheld.moments import NoMoment, column_at, moment_of

MOST_PAIRS = 40
NOTHING = (0, 1)


class BadTempo(ScoreError):
    """What is no tempo row, or no period of it."""


class Tempo:
    """A right tempo row, perhaps repeated: for each of its paces the moment and the time at which it begins."""

    def __init__(self, row, period):
        self.row = row
        self.times = [NOTHING]
        for (moment, pace), (following, _) in zip(row[:-1], row[1:]):
            self.times.append(sum_of(self.times[-1], quotient(difference(following, moment), pace)))
        self.period = period
        # The time that one period takes.
        self.span = None if period is None else self._time_within(period)

    def _time_within(self, moment):
        """The time of a moment up to the end of the first period."""
        at = last_not_above([begin for begin, _ in self.row], moment)
        begin, pace = self.row[at]
        return sum_of(self.times[at], quotient(difference(moment, begin), pace))

    def _moment_within(self, time):
        """The moment that has a time up to the end of the first period."""
        at = last_not_above(self.times, time)
        begin, pace = self.row[at]
        return sum_of(begin, product(difference(time, self.times[at]), pace))

    def time_at(self, moment):
        if self.period is None:
            return self._time_within(moment)
        rounds, rest = divided(moment, self.period)
        return sum_of(product(self.span, (rounds, 1)), self._time_within(rest))

    def moment_at(self, time):
        if self.period is None:
            return self._moment_within(time)
        rounds, rest = divided(time, self.span)
        return sum_of(product(self.period, (rounds, 1)), self._moment_within(rest))


def quotient(one, other):
    """A fraction divided by one above 0."""
    return product(one, (other[1], other[0]))


def divided(one, other):
    """How many whole times the fraction other, above 0, goes into one, and the rest."""
    many = (one[0] * other[1]) // (one[1] * other[0])
    return many, difference(one, product(other, (many, 1)))


def last_not_above(row, wanted):
    """The place of the last fraction of an ascending row that is not above the one that is wanted; the first is not."""
    told = 0
    for at, low in enumerate(row):
        if not is_less(wanted, low):
            told = at
    return told


def _checked_tempo(tempos, period):
    """The tempo; whatever both are, what is none is told by BadTempo."""
    if not is_row(tempos) or not 1 <= len(tempos) <= MOST_PAIRS:
        raise BadTempo("no row of so many pairs")
    row = []
    for pair in tempos:
        if not is_pair(pair) or not is_fraction(pair[0]) or not is_fraction(pair[1]):
            raise BadTempo("no pair of a moment and a pace")
        moment, pace = tuple(pair[0]), tuple(pair[1])
        if pace[0] <= 0 or not (is_less(row[-1][0], moment) if row else moment == NOTHING):
            raise BadTempo("a pace not above 0, or a moment that does not follow")
        row.append((moment, pace))
    if period is None:
        return Tempo(row, None)
    if not is_fraction(period) or not is_less(row[-1][0], period):
        raise BadTempo("no period")
    return Tempo(row, tuple(period))


def time_of(tempos, period, moment):
    """The time of a moment."""
    tempo = _checked_tempo(tempos, period)
    if moment[0] < 0:
        raise NoMoment(moment)
    return tempo.time_at(moment)


def moment_of_time(tempos, period, time):
    """The moment that has a time."""
    tempo = _checked_tempo(tempos, period)
    if time[0] < 0:
        raise NoMoment(time)
    return tempo.moment_at(time)


def column_time(score, tempos, period, number):
    """The time at which a column begins."""
    tempo = _checked_tempo(tempos, period)
    return tempo.time_at(moment_of(score, number))


def column_at_time(score, tempos, period, time):
    """The number of the column in which the moment with a time lies, or None behind the end of the score."""
    moment = moment_of_time(tempos, period, time)
    return column_at(score, moment) if is_less(moment, score.duration) else None

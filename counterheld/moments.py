"""Columns of scores, and the moments at which they begin."""

from counterheld.columns import exchanged, paced, raised, turned
from counterheld.errors import ScoreError
from counterheld.folds import Fold
from counterheld.fractions import common_grid, is_less, product
from counterheld.plans import pace_of
from counterheld.scores import TooLong

# The most columns that are told in a row.
MOST_TOLD = 1000


class NoColumn(ScoreError):
    """There is no column, or no part, with this number."""

    def __init__(self, number):
        ScoreError.__init__(self, "no such column")
        self.number = number


class NoMoment(ScoreError):
    """A moment at which nothing is."""

    def __init__(self, moment):
        ScoreError.__init__(self, "no such moment")
        self.moment = moment


class Written(Fold):
    """The columns themselves."""

    def of_columns(self, columns, way):
        return columns

    def joined(self, one, other):
        return one + other

    def many_times(self, one, many):
        return one * many

    def changed(self, one, rule, way):
        if rule[0] == "raise":
            return raised(one, rule[2])
        if rule[0] == "turn":
            return turned(one, rule[2])
        if rule[0] == "pace":
            return paced(one, rule[2])
        if rule[0] == "voices":
            return exchanged(one, rule[2])
        return one


class Grid(Fold):
    """The greatest fraction of which all durations of columns are whole multiples."""

    def of_columns(self, columns, way):
        return common_grid([duration for duration, _, _ in columns])

    def joined(self, one, other):
        return common_grid([one, other])

    def many_times(self, one, many):
        return one

    def changed(self, one, rule, way):
        return product(one, pace_of(rule))


def written(score):
    """All columns of a score of at most 1000."""
    return columns(score, 0, score.count)


def column(score, number):
    check_column(score, number)
    return columns(score, number, number + 1)[0]


def columns(score, first, stop):
    """The columns from first up to, but without, stop, at most 1000."""
    check_part(score, first, stop)
    if stop - first > MOST_TOLD:
        raise TooLong("more columns than are told in a row")
    return Written(score.plan).of(score.plan.last(), first, stop)


def check_column(score, number):
    """Raises NoColumn unless the score has a column with this number."""
    if not 0 <= number < score.count:
        raise NoColumn(number)


def check_part(score, first, stop):
    """Raises NoColumn unless the score has columns from first up to, but without, stop."""
    check_column(score, first)
    if not first < stop <= score.count:
        raise NoColumn(stop)


def moment_of(score, number):
    check_column(score, number)
    return score.plan.moment_ahead(score.plan.last(), number)


def column_at(score, moment):
    """The number of the column in which the moment lies."""
    if moment[0] < 0 or not is_less(moment, score.duration):
        raise NoMoment(moment)
    return score.plan.column_at(score.plan.last(), moment)


def grid(score):
    return Grid(score.plan).of_score()

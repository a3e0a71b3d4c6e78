"""Where a score breaks a book."""

from counterheld.errors import ScoreError
from counterheld.moments import check_column, check_part, columns
from counterheld.steps import bits_of, silence
from counterheld.tables import behind, tables_of
from counterheld.views import plain_view


class NoBroken(ScoreError):
    """There is no broken column with this number."""


def broken_count(score, book):
    """How many columns are broken."""
    return behind(score, book, score.count)[1]


def broken_in(score, book, first, stop):
    """How many columns of a part are broken."""
    check_part(score, first, stop)
    return behind(score, book, stop)[1] - behind(score, book, first)[1]


def lets(score, book):
    """Whether no column is broken."""
    return broken_count(score, book) == 0


def broken(score, book, number):
    """The broken column with this number."""
    if not 0 <= number < broken_count(score, book):
        raise NoBroken("no such broken column")
    tables = tables_of(score, book)
    view = plain_view(score.voices)
    state, is_broken = tables.begun(tables.of_score(view)[0])
    if is_broken and number == 0:
        return 0
    return tables.marked_at(view, state, number - int(is_broken))


def first_broken(score, book):
    """The first broken column, or None."""
    return None if lets(score, book) else broken(score, book, 0)


def last_broken(score, book):
    """The last broken column, or None."""
    many = broken_count(score, book)
    return None if many == 0 else broken(score, book, many - 1)


def state_behind(score, book, number):
    """The state in which the book is when it has gone through a column."""
    check_column(score, number)
    return behind(score, book, number + 1)[0]


def why(score, book, number):
    """What happens at a column: (state ahead, the tests that hold, the tuple that applies, state behind, broken)."""
    check_column(score, number)
    state, _ = behind(score, book, number)
    before, column = silence(score.voices), columns(score, number, number + 1)[0]
    if number > 0:
        before, column = columns(score, number - 1, number + 1)
    steps = book.steps
    following, is_broken = steps.step(before, column)[state]
    held = steps.held(before, column)
    return (state, tuple(held), steps.choice(state, bits_of(held)), following, is_broken)

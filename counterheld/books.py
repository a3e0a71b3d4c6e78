"""Books of rules: tests of neighbouring columns, and states."""

from counterheld.columns import as_tuples
from counterheld.errors import ScoreError
from counterheld.kinds import is_row, is_whole
from counterheld.probes import exchanged_test, is_held, is_test, tuples_of_test, turned_test
from counterheld.steps import Steps, silence

MOST_TESTS = 16
MOST_STATES = 24
# The most tuples of a state, and the most tests that one of them wants, or does not want.
MOST_TUPLES = 16
MOST_WANTED = 16


class BadBook(ScoreError):
    """What is no book: "tests" or "states", and the number of the first wrong one, or None."""

    def __init__(self, part, number):
        ScoreError.__init__(self, "no book: " + part)
        self.part = part
        self.number = number


class Book:
    """A book of rules."""

    def __init__(self, tests, states):
        self.tests = _checked_tests(tests)
        self.states = _checked_states(states, len(self.tests))
        self.steps = Steps(self.tests, self.states)


def _checked_tests(tests):
    if not is_row(tests) or len(tests) > MOST_TESTS:
        raise BadBook("tests", None)
    for number, test in enumerate(tests):
        if not is_test(test):
            raise BadBook("tests", number)
    return tuple([tuples_of_test(test) for test in tests])


def _checked_states(states, tests):
    """The states as tuples, for so many tests."""
    if not is_row(states) or not 1 <= len(states) <= MOST_STATES:
        raise BadBook("states", None)
    for number, state in enumerate(states):
        if not _is_state(state, tests, len(states)):
            raise BadBook("states", number)
    return tuple([tuple([_choice_as_tuples(choice) for choice in state]) for state in states])


def _is_state(thing, tests, states):
    if not is_row(thing) or len(thing) > MOST_TUPLES:
        return False
    return all([_is_choice(choice, tests, states) for choice in thing])


def _is_choice(thing, tests, states):
    if not is_row(thing) or len(thing) != 4:
        return False
    wanted, unwanted, following, broken = thing
    if not _are_tests(wanted, tests) or not _are_tests(unwanted, tests):
        return False
    return is_whole(following, 0, states - 1) and isinstance(broken, bool)


def _are_tests(thing, tests):
    """Whether it is a row of numbers of tests, of which there are so many."""
    if not is_row(thing) or len(thing) > MOST_WANTED:
        return False
    return all([is_whole(number, 0, tests - 1) for number in thing])


def _choice_as_tuples(choice):
    wanted, unwanted, following, broken = choice
    return (tuple(wanted), tuple(unwanted), following, broken)


def turned_book(book):
    """The book that breaks in a score what the book breaks in the turned score."""
    return Book([turned_test(test) for test in book.tests], book.states)


def exchanged_book(book, order):
    """The book that breaks in a score what the book breaks in the score with voices exchanged by the order."""
    return Book([exchanged_test(test, order) for test in book.tests], book.states)


def holds(test, one, other):
    """Whether a test holds of the move from the column one to the column other."""
    before, column = as_tuples([one, other])
    return is_held(tuples_of_test(test), before, column)


def moved(book, state, one, other):
    """The pair (following state, broken) of a move in a state."""
    before, column = as_tuples([one, other])
    return book.steps.step(before, column)[state]


def run(book, columns, state):
    """The tuple of a pair (state behind it, broken) for each of some columns, with silence ahead of them."""
    told = []
    before = silence(len(columns[0][2]))
    for column in as_tuples(columns):
        state, broken = book.steps.step(before, column)[state]
        told.append((state, broken))
        before = column
    return tuple(told)

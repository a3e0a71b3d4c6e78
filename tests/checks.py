"""What several tests ask."""

import unittest

from counterheld.books import Book
from counterheld.errors import ScoreError
from counterheld.scores import Score


def within(numbers, many):
    """Those of the numbers that are from 0 up to, but without, many; ascending and each once."""
    return sorted({number for number in numbers if 0 <= number < many})


class Case(unittest.TestCase):
    """A test case with the questions that several tests ask."""

    def assert_raises(self, error, attributes, function, *arguments):
        """The call raises just this error, with these attributes, and changes no argument."""
        before = self.shown(arguments)
        with self.assertRaises(error) as caught:
            function(*arguments)
        self.assertIs(error, caught.exception.__class__)
        told = {name: getattr(caught.exception, name) for name in attributes}
        self.assertEqual(attributes, told)
        for name in attributes:
            self.assertIs(attributes[name].__class__, told[name].__class__)
        self.assertEqual(before, self.shown(arguments))

    def shown(self, arguments):
        """The arguments as they are now; scores and books by what they hold, also within."""
        return [repr(self.with_objects_open(one)) for one in arguments]

    def with_objects_open(self, thing):
        if isinstance(thing, (Score, Book)):
            return vars(thing)
        if isinstance(thing, (list, tuple)):
            return thing.__class__(self.with_objects_open(part) for part in thing)
        return thing

    def assert_same(self, one, other):
        """Both are equal, and of the same kinds throughout: no list for a tuple, no 1 for True."""
        self.assertEqual(repr(one), repr(other))

    def assert_answer(self, answer, function, *arguments):
        """The call answers this, of these very kinds, and changes no argument."""
        before = self.shown(arguments)
        self.assert_same(answer, function(*arguments))
        self.assertEqual(before, self.shown(arguments))

    def assert_error_class(self, error):
        """The class stands directly under ScoreError, which is a ValueError."""
        self.assertEqual((ScoreError,), error.__bases__)
        self.assertEqual((ValueError,), ScoreError.__bases__)

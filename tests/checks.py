"""What several tests ask."""

import copy
import unittest


class Case(unittest.TestCase):
    """A test case with the questions that several tests ask."""

    def assert_raises(self, error, attributes, function, *arguments):
        """The call raises just this error, with these attributes, and changes no argument."""
        before = copy.deepcopy(arguments)
        with self.assertRaises(error) as caught:
            function(*arguments)
        self.assertIs(error, caught.exception.__class__)
        told = {name: getattr(caught.exception, name) for name in attributes}
        self.assertEqual(attributes, told)
        for name in attributes:
            self.assertIs(attributes[name].__class__, told[name].__class__)
        self.assert_same(before, arguments)

    def assert_same(self, one, other):
        """Both are equal, and of the same kinds throughout: no list for a tuple, no 1 for True."""
        self.assertEqual(repr(one), repr(other))

    def assert_answer(self, answer, function, *arguments):
        """The call answers this, of these very kinds, and changes no argument."""
        before = copy.deepcopy(arguments)
        self.assert_same(answer, function(*arguments))
        self.assert_same(before, arguments)

    def assert_error_class(self, error):
        """The class stands directly under ScoreError, which is a ValueError."""
        from counterheld.errors import ScoreError

        self.assertEqual((ScoreError,), error.__bases__)
        self.assertEqual((ValueError,), ScoreError.__bases__)

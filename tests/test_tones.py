"""Promises [A1], [A2], [A6] and [0.3]: counterheld.tones and counterheld.errors."""

import unittest

from counterheld.errors import ScoreError
from counterheld.tones import added, between, height, inverted, opposite, simple, spellings, steps
from tests.checks import Case

NUMBERS = range(-1000, 1001)
SOME = (-1000, -999, -501, -12, -7, -6, -1, 0, 1, 2, 5, 7, 12, 333, 999, 1000)


class Errors(Case):
    def test_the_base_is_a_value_error(self):
        self.assertEqual((ValueError,), ScoreError.__bases__)
        self.assertEqual("ScoreError", ScoreError.__name__)


class StepsAndHeights(Case):
    def test_all_fifths_and_octaves(self):
        for f in NUMBERS:
            self.assertEqual([4 * f + 7 * o for o in NUMBERS], [steps((f, o)) for o in NUMBERS])
            self.assertEqual([7 * f + 12 * o for o in NUMBERS], [height((f, o)) for o in NUMBERS])

    def test_the_fifth_and_the_octave(self):
        self.assert_answer(4, steps, (1, 0))
        self.assert_answer(7, steps, (0, 1))
        self.assert_answer(7, height, [1, 0])
        self.assert_answer(12, height, [0, 1])
        self.assert_answer(0, height, (12, -7))
        self.assert_answer(-1, steps, (12, -7))


class Sums(Case):
    def test_by_numbers(self):
        for f in SOME:
            for o in SOME:
                for g, p in ((3, -2), (-1000, 1000), (0, 0), (999, 7)):
                    self.assertEqual((f + g, o + p), added((f, o), (g, p)))
                    self.assertEqual((g - f, p - o), between((f, o), (g, p)))
                self.assertEqual((-f, -o), opposite((f, o)))
                self.assertEqual((-f, 1 - o), inverted((f, o)))

    def test_what_they_mean(self):
        c4, e4 = (0, 4), (4, 2)
        self.assert_answer((4, -2), between, c4, e4)
        self.assert_answer((-4, 2), between, e4, c4)
        self.assert_answer(e4, added, c4, (4, -2))
        self.assert_answer((-4, 3), inverted, (4, -2))
        self.assert_answer((0, 1), inverted, (0, 0))

    def test_results_beyond(self):
        self.assert_answer((2000, -2000), added, (1000, -1000), (1000, -1000))
        self.assert_answer((2000, -2000), between, (-1000, 1000), (1000, -1000))
        self.assert_answer((-1000, 1001), inverted, (1000, -1000))
        self.assert_answer((1000, -571), simple, (1000, 1000))
        self.assert_answer((-5000, -7000), opposite, (5000, 7000))

    def test_lists(self):
        self.assert_answer((4, 6), added, [1, 2], [3, 4])
        self.assert_answer((2, 2), between, [1, 2], [3, 4])
        self.assert_answer((-1, -2), opposite, [1, 2])
        self.assert_answer((-1, -1), inverted, [1, 2])
        self.assert_answer((1, 0), simple, [1, 2])

    def test_simple(self):
        for f in NUMBERS:
            told = {simple((f, o)) for o in (-1000, -1, 0, 1, 1000)}
            self.assertEqual(1, len(told))
            (g, p), = told
            self.assertEqual(f, g)
            self.assertIn(4 * g + 7 * p, range(7))
        self.assert_answer((0, 0), simple, (0, 3))
        self.assert_answer((7, -4), simple, (7, 0))
        self.assert_answer((-7, 4), simple, (-7, 0))


class Spellings(Case):
    def test_all_of_a_height(self):
        for most in range(21):
            wanted = {}
            for f in range(-7 * most - 1, 7 * most + 6):
                self.assertTrue(-most <= (f + 1) // 7 <= most)
                wanted.setdefault(7 * f % 12, []).append(f)
            for number in list(range(-60, 61)) + [-10000, -9999, -9991, 9989, 9999, 10000]:
                told = spellings(number, most)
                self.assertIs(tuple, type(told))
                self.assertEqual(wanted.get(number % 12, []), [f for f, _ in told])
                self.assertEqual({number}, {7 * f + 12 * o for f, o in told} or {number})

    def test_every_height(self):
        for number in range(-10000, 10001):
            told = spellings(number, 2)
            self.assertEqual([tone for tone in told if 7 * tone[0] + 12 * tone[1] == number], list(told))
            self.assertEqual(sorted(told), list(told))
            self.assertEqual(sum(1 for f in range(-15, 20) if 7 * f % 12 == number % 12), len(told))

    def test_some(self):
        self.assert_answer(((0, 4),), spellings, 48, 0)
        self.assert_answer((), spellings, 49, 0)
        self.assert_answer(((-5, 7), (7, 0)), spellings, 49, 1)
        self.assert_answer(((-12, 11), (0, 4), (12, -3)), spellings, 48, 2)


if __name__ == "__main__":
    unittest.main()

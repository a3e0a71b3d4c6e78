"""Promises [K1] and [K2]: counterheld.tempos."""

import random
import unittest
from fractions import Fraction

from counterheld.moments import NoColumn, NoMoment, moment_of
from counterheld.scores import Score
from counterheld.tempos import BadTempo, column_at_time, column_time, moment_of_time, time_of
from tests import plainly
from tests.checks import Case
from tests.plainpapers import deep

ROW = (((0, 1), (60, 1)), ((1, 1), (120, 1)))
GOOD = ((0, 1), (60, 1))


def pair(fraction):
    return (fraction.numerator, fraction.denominator)


def plain_time(row, period, moment):
    """By going from pace to pace, round after round, until the moment is reached."""
    told, begin = Fraction(0), Fraction(0)
    while True:
        for number, (low, pace) in enumerate(row):
            high = Fraction(*row[number + 1][0]) if number + 1 < len(row) else period
            high = moment if high is None else min(moment, begin + high)
            low = begin + Fraction(*low)
            if low < moment:
                told += (high - low) / Fraction(*pace)
        if period is None or begin + period >= moment:
            return told
        begin += period


def some_row(chance, many, parts=12):
    moments = {Fraction(0)}
    while len(moments) < many:
        moments.add(Fraction(chance.randint(1, 60), chance.randint(1, parts)))
    return tuple((pair(moment), plainly.some_fraction(chance, 200)) for moment in sorted(moments))


class Times(Case):
    def check(self, row, period, moment):
        told = pair(plain_time(row, None if period is None else Fraction(*period), moment))
        self.assert_answer(told, time_of, row, period, pair(moment))
        self.assert_answer(pair(moment), moment_of_time, row, period, told)

    def test_of_chance(self):
        chance = random.Random(221)
        for _ in range(120):
            row = some_row(chance, chance.choice((1, 2, 5, 40)))
            period = chance.choice((None, pair(Fraction(*row[-1][0]) + Fraction(*plainly.some_fraction(chance, 9)))))
            last = Fraction(*row[-1][0])
            moments = {Fraction(0), last, last / 2, last + 5, last + 100, Fraction(*plainly.some_fraction(chance, 90))}
            moments |= {Fraction(*moment) for moment, _ in row}
            if period is not None:
                moments |= {Fraction(*period) * k + m for k in (1, 2, 3) for m in (0, last, last / 3, Fraction(1, 10 ** 9))}
            for moment in moments:
                self.check(row, period, moment)

    def test_far_moments(self):
        chance = random.Random(222)
        for _ in range(40):
            row = some_row(chance, chance.choice((1, 3, 40)))
            period = Fraction(*row[-1][0]) + Fraction(*plainly.some_fraction(chance, 9))
            far = Fraction(chance.randrange(10 ** 20), chance.randint(1, 10 ** 6))
            rounds, rest = divmod(far, period)
            once = plain_time(row, period, period)
            told = rounds * once + plain_time(row, period, rest)
            self.assert_answer(pair(told), time_of, row, pair(period), pair(far))
            self.assert_answer(pair(far), moment_of_time, list(row), list(pair(period)), list(pair(told)))
            self.check(row, None, far)
            for begun in (rounds * period, rounds * period + Fraction(*row[-1][0])):
                told = time_of(row, pair(period), pair(begun))
                self.assert_answer(pair(begun), moment_of_time, row, pair(period), told)

    def test_example(self):
        self.assert_answer((1, 40), time_of, ROW, None, (2, 1))
        self.assert_answer((1, 60), time_of, ROW, None, (1, 1))
        self.assert_answer((0, 1), time_of, ROW, None, (0, 1))
        self.assert_answer((1, 40), time_of, ROW, (2, 1), (2, 1))
        self.assert_answer((7, 240), time_of, ROW, (3, 2), (2, 1))
        self.assert_answer((2, 1), moment_of_time, ROW, (3, 2), (7, 240))


class Columns(Case):
    def test_few_columns(self):
        chance = random.Random(223)
        for _ in range(60):
            rules = plainly.some_rules(chance, chance.randint(1, 10))
            columns = plainly.written(rules)[-1]
            score, moments = Score(rules), plainly.moments(columns)
            row = some_row(chance, chance.choice((1, 4)), 3)
            period = chance.choice((None, pair(Fraction(*row[-1][0]) + 1)))
            length = None if period is None else Fraction(*period)
            for number in range(0, len(columns), 3):
                time = plain_time(row, length, moments[number])
                self.assert_answer(pair(time), column_time, score, row, period, number)
                self.assert_answer(number, column_at_time, score, row, period, pair(time))
                between = plain_time(row, length, (2 * moments[number] + moments[number + 1]) / 3)
                self.assert_answer(number, column_at_time, score, row, period, pair(between))
            end = plain_time(row, length, moments[-1])
            for time in (end, end + 1, end * 10 ** 20):
                self.assert_answer(None, column_at_time, score, row, period, pair(time))
            self.assert_answer(len(columns) - 1, column_at_time, score, row, period, pair(end - Fraction(1, 10 ** 30)))

    def test_many_columns(self):
        chance = random.Random(224)
        for _ in range(12):
            rules, _ = plainly.great_rules(chance, chance.choice((4, 12, 40)))
            score, row = Score(rules), some_row(chance, 10)
            for period in (None, pair(Fraction(*row[-1][0]) + Fraction(1, 7))):
                for number in {0, score.count // 2, score.count - 1, chance.randrange(score.count)}:
                    time = column_time(score, row, period, number)
                    self.assertEqual(time, time_of(row, period, moment_of(score, number)))
                    self.assert_answer(number, column_at_time, score, row, period, time)
                self.assert_answer(None, column_at_time, score, row, period, time_of(row, period, score.duration))


class Wrong(Case):
    SCORE = Score((("bar", (((1, 4), 0, (None,)),)),))

    def refuse(self, row, period):
        for moment in ((0, 1), (-1, 2)):
            self.assert_raises(BadTempo, {}, time_of, row, period, moment)
            self.assert_raises(BadTempo, {}, moment_of_time, row, period, moment)
            self.assert_raises(BadTempo, {}, column_at_time, self.SCORE, row, period, moment)
        self.assert_raises(BadTempo, {}, column_time, self.SCORE, row, period, -1)

    def test_rows(self):
        things = (None, True, 0, "", "ab", (), [], {}, {0: 1}, deep(44), (GOOD[0],), (GOOD,) * 2, tuple(((k, 1), (1, 1)) for k in range(41)))
        for row in things:
            self.refuse(row, None)
        for wrong in (None, 0, "ab", (), {}, {0: 1, 1: 2}, ((1, 1),), ((1, 1), (60, 1), 1), (1, 60), deep(43)):
            self.refuse((GOOD, wrong), None)
            self.refuse([wrong, GOOD], (9, 1))
        for wrong in ((2, 2), (1, 0), (1, -1), (True, 1), (1, True), None, 1, "11", (1,), (1, 1, 1), {}, (0, 1), (-1, 1)):
            self.refuse((GOOD, (wrong, (60, 1))), None)
            self.refuse((GOOD, ((1, 1), wrong)), None)
        for first in ((1, 1), (-1, 1), (1, 10 ** 9)):
            self.refuse(((first, (60, 1)),), None)
        self.refuse((GOOD, ((2, 1), (1, 1)), ((2, 1), (1, 1))), None)
        self.refuse((GOOD, ((2, 1), (1, 1)), ((1, 1), (1, 1))), None)

    def test_periods(self):
        for period in ((1, 1), (1, 2), (0, 1), (-2, 1), (4, 2), (True, 1), True, False, 0, 2, "", "21", (), [], {}, (2,), (2, 1, 1), deep(44)):
            self.refuse(ROW, period)
        for period in ((0, 1), (-1, 1)):
            self.refuse(ROW[:1], period)
        self.assert_answer((1, 60), time_of, ROW[:1], (1, 10 ** 30), (1, 1))

    def test_moments(self):
        for moment in ((-1, 1), (-1, 10 ** 30), [-5, 2]):
            for period in (None, (2, 1)):
                self.assert_raises(NoMoment, {"moment": moment}, time_of, ROW, period, moment)
                self.assert_raises(NoMoment, {"moment": moment}, moment_of_time, ROW, period, moment)
                self.assert_raises(NoMoment, {"moment": moment}, column_at_time, self.SCORE, ROW, period, moment)
        for number in (-1, 1, 10 ** 30):
            self.assert_raises(NoColumn, {"number": number}, column_time, self.SCORE, ROW, None, number)

    def test_forty_pairs_and_lists(self):
        row = [[[k, 1], [1, 1]] for k in range(40)]
        self.assert_answer((50, 1), time_of, row, None, [50, 1])
        self.assert_answer((50, 1), time_of, tuple(row), [41, 1], (50, 1))
        self.assert_error_class(BadTempo)


if __name__ == "__main__":
    unittest.main()

"""Promises [K3] and [K4]: counterheld.pulses."""

import random
import unittest
from fractions import Fraction
from math import gcd, lcm

from counterheld.pulses import BadPulse, beat, beats, beats_of, meeting, meetings, nearest_miss
from tests.checks import Case
from tests.plainpapers import deep

GOOD = ((0, 1), (1, 1))


def pair(fraction):
    return (fraction.numerator, fraction.denominator)


def some_pulse(chance, far, most, parts):
    first = Fraction(chance.randint(-far, far), chance.choice(parts))
    return (pair(first), pair(Fraction(chance.randint(1, most), chance.choice(parts))))


def moments(pulse, until):
    """The moments of a pulse below until, one by one."""
    told, moment = set(), Fraction(*pulse[0])
    while moment < until:
        told.add(moment)
        moment += Fraction(*pulse[1])
    return told


class Small(Case):
    """Against the moments one by one."""

    UNTIL = 90

    def check(self, pulses):
        rows = [moments(pulse, self.UNTIL) for pulse in pulses]
        every = sorted(set().union(*rows))
        for number in range(0, len(every), 7):
            having = tuple(k for k, row in enumerate(rows) if every[number] in row)
            self.assert_answer((pair(every[number]), having), beat, pulses, number)
        for until in {Fraction(-30), Fraction(0), every[0], every[-1], every[len(every) // 2] + Fraction(1, 1000), Fraction(self.UNTIL)}:
            below = [moment for moment in every if moment < until]
            self.assert_answer(len(below), beats, pulses, pair(until))
            for many in {1, 2, len(pulses), 12}:
                told = len([moment for moment in below if sum(moment in row for row in rows) == many])
                self.assert_answer(told, beats_of, pulses, pair(until), many)
            meeting_below = [moment for moment in below if all(moment in row for row in rows)]
            self.assert_answer(len(meeting_below), meetings, pulses, pair(until))

    def check_meeting(self, pulses):
        """No two small pulses meet for the first time as late as here."""
        rows = [moments(pulse, 700) for pulse in pulses]
        apart = [(k, n) for k in range(len(rows)) for n in range(k + 1, len(rows)) if not rows[k] & rows[n]]
        if apart:
            self.assert_answer(("apart",) + apart[0], meeting, pulses)
            self.assert_answer(0, meetings, pulses, (10 ** 30, 1))
        else:
            shared = sorted(set.intersection(*rows))
            self.assert_answer(("meet", pair(shared[0]), pair(shared[1] - shared[0])), meeting, pulses)
        return not apart

    def test_of_chance(self):
        chance = random.Random(231)
        for _ in range(120):
            many = chance.choice((1, 2, 3, 5, 12))
            self.check(tuple(some_pulse(chance, 40, 12, (1, 1, 2, 3)) for _ in range(many)))

    def test_meetings(self):
        chance = random.Random(232)
        met = 0
        for _ in range(200):
            pulses = tuple(tuple(pair(Fraction(part, 2)) for part in (chance.randint(-40, 40), chance.choice((1, 2, 3, 4, 6)))) for _ in range(chance.choice((1, 2, 3, 4))))
            met += self.check_meeting(pulses)
        self.assertGreater(met, 50)

    def test_equal_periods(self):
        pulses = (((0, 1), (2, 1)),) * 3 + (((1, 1), (2, 1)),) * 2 + (((-7, 2), (2, 1)),)
        self.check(pulses)
        self.assert_answer(("apart", 0, 3), meeting, pulses)
        self.assert_answer(10, beats_of, pulses, (20, 1), 3)
        self.assert_answer((((-7, 2), (5,))), beat, pulses, 0)


class Misses(Case):
    def check(self, one, other):
        rows = sorted(moments(one, 200)), sorted(moments(other, 200))
        ranked = min((abs(x - y), min(x, y), x, y) for x in rows[0] for y in rows[1])
        told = (pair(ranked[0]), (pair(ranked[2]), pair(ranked[3])))
        self.assert_answer(told, nearest_miss, one, other)

    def test_of_chance(self):
        chance = random.Random(233)
        for _ in range(120):
            self.check(some_pulse(chance, 30, 9, (1, 1, 2)), some_pulse(chance, 30, 9, (1, 1, 2)))

    def test_both_ways_are_as_near(self):
        self.assert_answer(((1, 1), ((0, 1), (1, 1))), nearest_miss, ((0, 1), (2, 1)), ((1, 1), (2, 1)))
        self.assert_answer(((1, 1), ((1, 1), (0, 1))), nearest_miss, ((1, 1), (2, 1)), ((0, 1), (2, 1)))
        self.assert_answer(((0, 1), ((6, 1), (6, 1))), nearest_miss, ((0, 1), (2, 1)), ((6, 1), (3, 1)))
        self.check(((0, 1), (4, 1)), ((2, 1), (8, 1)))
        self.check(((0, 1), (8, 1)), ((-6, 1), (4, 1)))

    def test_great_numbers(self):
        chance = random.Random(234)
        for _ in range(60):
            one, other = some_pulse(chance, 10 ** 24, 10 ** 24, (1, 6, 35)), some_pulse(chance, 10 ** 24, 10 ** 24, (1, 6, 35))
            distance, (x, y) = nearest_miss(one, other)
            self.assertEqual(Fraction(*distance), abs(Fraction(*x) - Fraction(*y)))
            grid = lcm(one[1][1], other[1][1])
            shared = Fraction(gcd(one[1][0] * grid // one[1][1], other[1][0] * grid // other[1][1]), grid)
            rest = (Fraction(*one[0]) - Fraction(*other[0])) % shared
            self.assertEqual(Fraction(*distance), min(rest, shared - rest))
            for moment, (first, period) in ((x, one), (y, other)):
                steps = (Fraction(*moment) - Fraction(*first)) / Fraction(*period)
                self.assertEqual(1, steps.denominator)
                self.assertGreaterEqual(steps, 0)


class Great(Case):
    """Numbers of up to 10 ** 24, and beats of numbers of up to 10 ** 27."""

    def some_pulses(self, chance, many, meeting_at=None):
        told = []
        for _ in range(many):
            period = Fraction(chance.randint(10 ** 22, 10 ** 24), chance.choice((1, 2, 7, 10 ** 6)))
            first = Fraction(chance.randint(-(10 ** 24), 10 ** 24), chance.choice((1, 5)))
            if meeting_at is not None:
                first = meeting_at - chance.randint(0, 5) * period
            told.append((pair(first), pair(period)))
        return tuple(told)

    def test_all_meet(self):
        chance = random.Random(235)
        for many in (1, 2, 5, 12):
            at = Fraction(chance.randint(-(10 ** 24), 10 ** 24), 3)
            pulses = self.some_pulses(chance, many, at)
            word, first, period = meeting(pulses)
            self.assertEqual("meet", word)
            steps = (at - Fraction(*first)) / Fraction(*period)
            self.assertEqual(1, steps.denominator)
            for begin, each in pulses:
                for step in ((Fraction(*first) - Fraction(*begin)) / Fraction(*each), Fraction(*period) / Fraction(*each)):
                    self.assertEqual(1, step.denominator)
                self.assertLessEqual(Fraction(*begin), Fraction(*first))
            # No lesser period is one of all, and none of the meetings lies one period ahead.
            counts = [Fraction(*period) / Fraction(*each) for _, each in pulses]
            self.assertEqual(1, gcd(*[int(count) for count in counts]))
            self.assertLess(Fraction(*first) - Fraction(*period), max(Fraction(*begin) for begin, _ in pulses))
            for k in (0, 1, 10 ** 30):
                until = Fraction(*first) + k * Fraction(*period)
                self.assert_answer(k, meetings, pulses, pair(until))
                self.assert_answer(k + 1, meetings, pulses, pair(until + Fraction(1, 10 ** 9)))
                self.assert_answer(many, lambda: len(beat(pulses, beats(pulses, pair(until)))[1]))

    def test_one_pair_never_meets(self):
        chance = random.Random(236)
        for _ in range(20):
            primes = (10 ** 9 + 7, 10 ** 9 + 9, 998244353, 10 ** 9 + 21, 10 ** 9 + 33)
            pulses = [((chance.randint(-(10 ** 20), 10 ** 20), 1), (prime, 1)) for prime in primes]
            self.assertEqual("meet", meeting(pulses)[0])
            one, other = sorted(chance.sample(range(7), 2))
            pulses.insert(one, ((0, 1), (2, 1)))
            pulses.insert(other, ((1, 1), (6, 1)))
            self.assert_answer(("apart", one, other), meeting, pulses)
            self.assert_answer(0, meetings, tuple(pulses), (10 ** 60, 1))

    def test_beats(self):
        chance = random.Random(237)
        for many in (1, 2, 7, 12):
            for at in (None, Fraction(chance.randint(0, 10 ** 24), 7)):
                pulses = self.some_pulses(chance, many, at)
                before = None
                for number in (0, 1, 5, 10 ** 3, 10 ** 20, 10 ** 27, 10 ** 27 + 1):
                    moment, having = beat(pulses, number)
                    self.assertEqual(number, beats(pulses, moment))
                    self.assertEqual(number + 1, beats(pulses, pair(Fraction(*moment) + Fraction(1, 10 ** 30))))
                    exact = tuple(k for k, (first, period) in enumerate(pulses) if (
                        Fraction(*first) <= Fraction(*moment) and ((Fraction(*moment) - Fraction(*first)) / Fraction(*period)).denominator == 1))
                    self.assertEqual(exact, having)
                    self.assertTrue(having)
                    if before is not None:
                        self.assertLess(before, Fraction(*moment))
                    before = Fraction(*moment)
                until = pair(before)
                shares = [beats_of(pulses, until, k) for k in range(1, 13)]
                self.assertEqual(beats(pulses, until), sum(shares))
                each = [max(0, -((Fraction(*first) - before) // Fraction(*period))) for first, period in pulses]
                self.assertEqual(sum(each), sum(k * share for k, share in enumerate(shares, start=1)))

    def test_beats_of_small_periods(self):
        """What comes again after one round of all pulses, so that a far beat is known from the first round."""
        chance = random.Random(238)
        for _ in range(12):
            pulses = tuple(((chance.randint(-9, 9), 1), (chance.choice((2, 3, 4, 5, 6, 8, 9, 10)), 1)) for _ in range(chance.choice((3, 6, 12))))
            rows = [moments(pulse, 800) for pulse in pulses]
            every = sorted(set().union(*rows))
            start, size = 10, 360
            ahead = len([moment for moment in every if moment < start])
            each = len([moment for moment in every if start <= moment < start + size])
            for number in (10 ** 27, 10 ** 27 + 1, 10 ** 26 + chance.randrange(10 ** 6)):
                rounds, rest = divmod(number - ahead, each)
                wanted = every[ahead + rest] + rounds * size
                self.assertEqual(pair(wanted), beat(pulses, number)[0])

    def test_pulses_that_begin_far_apart(self):
        pulses = (((-(10 ** 24), 1), (1, 10 ** 3)), ((10 ** 24, 1), (1, 1)), ((5, 7), (10 ** 24, 1)))
        for number in (0, 10 ** 26, 10 ** 27, 2 * 10 ** 27, 2 * 10 ** 27 + 2, 3 * 10 ** 27):
            moment, having = beat(pulses, number)
            self.assertEqual(number, beats(pulses, moment))
            self.assertTrue(having)
        self.assert_answer(((5, 7), (2,)), beat, pulses, beats(pulses, (5, 7)))


class Wrong(Case):
    def refuse(self, number, pulses):
        attributes = {"number": number}
        self.assert_raises(BadPulse, attributes, meeting, pulses)
        self.assert_raises(BadPulse, attributes, meetings, pulses, (1, 1))
        self.assert_raises(BadPulse, attributes, beat, pulses, 0)
        self.assert_raises(BadPulse, attributes, beats, pulses, (1, 1))
        self.assert_raises(BadPulse, attributes, beats_of, pulses, (1, 1), 1)

    WRONG = (None, True, 0, "", "ab", (), {}, {0: 1}, ((0, 1),), ((0, 1), (1, 1), 1), (0, 1), deep(43)) + tuple(
        ((0, 1), period) for period in ((0, 1), (-1, 1), (1, 0), (2, 2), (1, -1), (True, 1), (1, True), None, 1, "11", (1,), {}, deep(42))
    ) + tuple((first, (1, 1)) for first in ((2, 2), (0, 2), (1, 0), (True, 1), None, 0, "01", (0,), (0, 1, 1), {}))

    def test_pulses(self):
        for pulses in (None, True, 0, "", "abc", (), [], {}, {0: GOOD}, (GOOD,) * 13, [GOOD] * 14, deep(0)):
            self.refuse(None, pulses)
        for wrong in self.WRONG:
            self.refuse(0, (wrong,))
            self.refuse(1, [GOOD, wrong, None])
            self.refuse(11, (GOOD,) * 11 + (wrong,))
            self.assert_raises(BadPulse, {"number": 0}, nearest_miss, wrong, None)
            self.assert_raises(BadPulse, {"number": 1}, nearest_miss, GOOD, wrong)

    def test_lists(self):
        self.assert_answer(("meet", (0, 1), (1, 1)), meeting, [[[0, 1], [1, 1]]] * 12)
        self.assert_answer(((0, 1), (0, 1)), beat, [[[0, 1], [1, 1]]] * 2, 0)
        self.assert_answer(((0, 1), ((0, 1), (0, 1))), nearest_miss, [[0, 1], [1, 1]], GOOD)
        self.assert_error_class(BadPulse)

    def test_example(self):
        pulses = (((0, 1), (2, 1)), ((1, 1), (3, 1)))
        self.assert_answer(((4, 1), (0, 1)), beat, pulses, 3)
        self.assert_answer(7, beats, pulses, (10, 1))
        self.assert_answer(1, beats_of, pulses, (10, 1), 2)
        self.assert_answer(("meet", (4, 1), (6, 1)), meeting, pulses)


if __name__ == "__main__":
    unittest.main()

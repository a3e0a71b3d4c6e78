"""Promises [0.2], [C2] and [C3]: counterheld.moments."""

import random
import unittest
from fractions import Fraction

from counterheld.bartexts import bar_text, read_bar
from counterheld.moments import NoColumn, NoMoment, column, column_at, columns, grid, moment_of, written
from counterheld.scores import Score, TooLong
from tests import plainly
from tests.checks import Case

MOST = 10 ** 12
BAR = (((1, 4), 0, (((0, 4), True), None)), ((1, 8), 1, (((0, 4), False), ((4, 2), True))), ((2, 3), 0, (None, None)))
LONG = Score((("bar", BAR), ("times", 0, 10 ** 11)))


def pair(told):
    return (told.numerator, told.denominator)


class Example(Case):
    def test_first_half(self):
        bar = read_bar("1/4 C4 C3 | 1/8!1 E4 ~C3")
        rules = (("bar", bar), ("raise", 0, (1, 0)), ("then", 0, 1), ("times", 2, 3), ("turn", 3, (0, 8)))
        score = Score(rules)
        self.assert_same((12, (9, 4)), (score.count, score.duration))
        self.assert_same("1/4 C4 C5 | 1/8!1 Ab3 ~C5 | 1/4 F3 F4 | 1/8!1 Db3 ~F4", bar_text(columns(score, 0, 4)))
        self.assert_same(((1, 1), 5, 6), (moment_of(score, 5), column_at(score, (1, 1)), column_at(score, (9, 8))))


class FewColumns(Case):
    """Everything against what is written out."""

    def check(self, score, row):
        self.assert_answer(tuple(row), written, score)
        times = plainly.moments(row)
        for n, told in enumerate(row):
            self.assert_same(told, column(score, n))
            self.assert_same(pair(times[n]), moment_of(score, n))
            # Where it begins, within it, and just ahead of the next one.
            length = times[n + 1] - times[n]
            for moment in (times[n], times[n] + length / 3, times[n + 1] - length / 10 ** 20):
                self.assert_same(n, column_at(score, pair(moment)))
        self.assert_same(plainly.grid([told[0] for told in row]), grid(score))
        self.assertEqual(times[-1], Fraction(*score.duration))

    def test_of_chance(self):
        chance = random.Random(31)
        for _ in range(250):
            rules = plainly.some_rules(chance, chance.randint(1, 22))
            row = plainly.written(rules)[-1]
            score = Score(rules)
            self.check(score, row)
            for _ in range(6):
                first = chance.randrange(len(row))
                stop = chance.randint(first + 1, len(row))
                self.assert_answer(tuple(row[first:stop]), columns, score, first, stop)

    def test_every_part(self):
        rules = (("bar", BAR), ("times", 0, 3), ("then", 0, 1), ("voices", 2, (1, 0)), ("cut", 3, 2, 11), ("pace", 4, (2, 7)), ("then", 5, 1))
        row = plainly.written(rules)[-1]
        score = Score(rules)
        self.check(score, row)
        for first in range(len(row)):
            for stop in range(first + 1, len(row) + 1):
                self.assert_same(tuple(row[first:stop]), columns(score, first, stop))

    def test_durations_beyond_those_of_bars(self):
        rules = [("bar", BAR)] + [("pace", k, ((997, 1000), (991, 999), (1000, 3), (1, 977))[k % 4]) for k in range(57)]
        rules += [("then", 57, 0), ("times", 58, 2)]
        row = plainly.written(rules)[-1]
        self.assertGreater(row[0][0][1], 10 ** 60)
        self.check(Score(rules), row)

    def test_rules_paced_and_cut_in_turns(self):
        rules = [("bar", BAR), ("times", 0, 7)]
        for k in range(19):
            rules += [("pace", len(rules) - 1, (3, 5 + 2 * (k % 2))), ("then", len(rules), len(rules) - 1), ("cut", len(rules) + 1, 3, 20 + k % 3)]
        row = plainly.written(rules)[-1]
        self.check(Score(rules), row)

    def test_sixty_rules(self):
        chance = random.Random(32)
        for _ in range(12):
            rules = plainly.some_rules(chance, 60, 200)
            self.check(Score(rules), plainly.written(rules)[-1])


class ManyColumns(Case):
    """Scores that nobody could write out, against each column found by going from rule to rule."""

    def numbers(self, chance, rules, counts):
        """Columns at both ends, around those where rules begin and end, and some of chance."""
        told = {0, 1, counts[-1] // 2, counts[-1] - 2, counts[-1] - 1}
        for size in counts:
            told.update((size - 1, size, size + 1, counts[-1] - size, counts[-1] - size - 1, 2 * size))
        for rule in rules:
            if rule[0] == "cut":
                told.update((rule[2], rule[3], rule[3] - 1))
        told.update(chance.randrange(counts[-1]) for _ in range(20))
        return sorted(n for n in told if 0 <= n < counts[-1])

    def check(self, chance, rules, counts):
        score = Score(rules)
        self.assertEqual((tuple(counts), counts[-1]), (score.counts(), score.count))
        last, kept = len(rules) - 1, {}
        for n in self.numbers(chance, rules, counts):
            told = plainly.column_of(rules, counts, last, n)
            self.assert_same(told, column(score, n))
            moment = plainly.moment_of(rules, counts, last, n, kept)
            self.assert_same(pair(moment), moment_of(score, n))
            length = Fraction(*told[0])
            for within in (moment, moment + length / 2, moment + length * Fraction(10 ** 30 - 1, 10 ** 30)):
                self.assert_same(n, column_at(score, pair(within)))
            if n > 0:
                self.assert_same(n - 1, column_at(score, pair(moment - Fraction(1, 10 ** 200))))
        total = plainly.moment_of(rules, counts, last, counts[-1], kept)
        self.assert_same(pair(total), score.duration)
        for moment in (total, total + Fraction(1, 10 ** 200), total * 2, Fraction(-1, 10 ** 200)):
            self.assert_raises(NoMoment, {"moment": pair(moment)}, column_at, score, pair(moment))
        return score

    def test_of_chance(self):
        chance = random.Random(33)
        for _ in range(40):
            rules, counts = plainly.great_rules(chance, chance.choice((5, 20, 40, 60)))
            score = self.check(chance, rules, counts)
            for many in (1, 2, 999, 1000):
                first = chance.randrange(max(1, counts[-1] - many))
                stop = min(counts[-1], first + many)
                wanted = tuple(plainly.column_of(rules, counts, len(rules) - 1, n) for n in range(first, stop))
                self.assert_same(wanted, columns(score, first, stop))

    def test_every_rule(self):
        chance = random.Random(34)
        rules, counts = plainly.great_rules(chance, 60)
        for many in range(1, 61):
            self.check(chance, rules[:many], counts[:many])

    def test_the_most_columns(self):
        for rules in (
            (("bar", BAR[:1]), ("times", 0, MOST)),
            (("bar", BAR[:1]), ("times", 0, 10 ** 6), ("times", 1, 10 ** 6)),
            (("bar", BAR[:2]),) + tuple(("times", k, 10) for k in range(11)) + (("times", 11, 5), ("turn", 12, (0, 8)), ("pace", 13, (1, 3))),
            (("bar", BAR[:1]),) + tuple(("then", k, k) for k in range(39)) + (("then", 39, 38), ("then", 40, 36), ("cut", 41, 5, 893353197561)),
        ):
            counts = list(Score(rules).counts())
            self.check(random.Random(35), rules, counts)

    def test_a_row_of_cuts(self):
        chance = random.Random(36)
        rules, counts = [("bar", BAR), ("times", 0, 3 * 10 ** 11)], [3, 9 * 10 ** 11]
        while len(rules) < 44:
            first, stop = chance.randrange(10 ** 9), counts[-1] - chance.randrange(10 ** 9)
            rules.append(("cut", len(rules) - 1, first, stop))
            counts.append(stop - first)
        self.check(chance, tuple(rules), counts)
        first = sum(rule[2] for rule in rules[2:])
        self.assert_same(BAR[first % 3], column(Score(rules), 0))

    def test_cuts_of_joins_of_cuts(self):
        chance = random.Random(37)
        rules, counts = [("bar", BAR * 20)], [60]
        while len(rules) < 59:
            last = len(rules) - 1
            rules += [("then", last, last), ("cut", last + 1, 17 + last, 2 * counts[-1] - 13)]
            counts += [2 * counts[-1], 2 * counts[-1] - 30 - last]
        score = self.check(chance, tuple(rules), counts)
        self.assert_same((1, 24), grid(score))


class Grids(Case):
    def test_of_great_scores(self):
        self.assert_answer((1, 24), grid, LONG)
        self.assert_answer((1, 4), grid, Score((("bar", BAR), ("times", 0, 10 ** 11), ("cut", 1, 3, 4))))
        self.assert_answer((1, 8), grid, Score((("bar", BAR), ("times", 0, 10 ** 11), ("cut", 1, 6, 8))))
        self.assert_answer((1, 24), grid, Score((("bar", BAR), ("times", 0, 10 ** 11), ("cut", 1, 6, 10 ** 11))))
        self.assert_answer((5, 168), grid, Score((("bar", BAR), ("pace", 0, (5, 7)), ("times", 1, 10 ** 11))))
        self.assert_answer((2, 3), grid, Score((("bar", BAR), ("times", 0, 10 ** 11), ("cut", 1, 5, 6), ("times", 2, MOST))))
        self.assert_answer((1, 4), grid, Score((("bar", BAR[:1]), ("bar", BAR[1:2]), ("times", 0, MOST))))
        self.assert_answer((10, 9), grid, Score((("bar", (((5, 3), 0, (None,)),)), ("pace", 0, (4, 3)), ("then", 0, 1), ("pace", 2, (2, 1)))))

    def test_rules_that_are_not_used(self):
        rules = (("bar", BAR[:1]), ("bar", BAR), ("pace", 1, (1, 997)), ("times", 0, 5))
        self.assert_answer((1, 4), grid, Score(rules))

    def test_of_chance(self):
        chance = random.Random(38)
        for _ in range(15):
            rules, counts = plainly.great_rules(chance, 30, 3000)
            row = plainly.written(rules)[-1]
            self.assert_same(plainly.grid([told[0] for told in row]), grid(Score(rules)))


class WrittenAlike(Case):
    def test_scores_of_other_rules(self):
        scores = [Score(rules) for rules in (
            (("bar", BAR * 4),),
            (("bar", BAR), ("times", 0, 4)),
            (("bar", BAR), ("then", 0, 0), ("then", 1, 0), ("then", 0, 2)),
            (("bar", BAR[::-1]), ("bar", BAR), ("times", 1, MOST // 3), ("cut", 2, 3 * 10 ** 10, 3 * 10 ** 10 + 12)),
            (("bar", BAR), ("raise", 0, (3, 4)), ("raise", 1, (-3, -4)), ("times", 2, 2), ("times", 3, 2)),
            (("bar", BAR), ("turn", 0, (5, 5)), ("times", 1, 4), ("pace", 2, (3, 7)), ("turn", 3, (5, 5)), ("pace", 4, (7, 3))),
            (("bar", BAR), ("voices", 0, (1, 0)), ("voices", 1, (1, 0)), ("times", 2, 5), ("cut", 3, 3, 15)),
        )]
        for score in scores:
            self.assert_same(BAR * 4, written(score))
            self.assert_same(((25, 6), 12, 2), (score.duration, score.count, score.voices))
            self.assert_same((1, 24), grid(score))
            for n in range(12):
                self.assert_same(BAR[n % 3], column(score, n))
                self.assert_same(moment_of(scores[0], n), moment_of(score, n))
                self.assert_same(n, column_at(score, moment_of(score, n)))
            self.assert_raises(NoColumn, {"number": 12}, column, score, 12)
            self.assert_raises(NoMoment, {"moment": (25, 6)}, column_at, score, (25, 6))


class Wrong(Case):
    SHORT = Score((("bar", BAR), ("times", 0, 400)))

    def test_no_column(self):
        for score in (self.SHORT, LONG, Score((("bar", BAR[:1]),)), Score((("bar", BAR), ("times", 0, 10 ** 9), ("cut", 1, 5, 7)))):
            for number in (-1, -2, -score.count, score.count, score.count + 1, 10 ** 30, -10 ** 30):
                self.assert_raises(NoColumn, {"number": number}, column, score, number)
                self.assert_raises(NoColumn, {"number": number}, moment_of, score, number)
                self.assert_raises(NoColumn, {"number": number}, columns, score, number, score.count)
                self.assert_raises(NoColumn, {"number": number}, columns, score, number, number)

    def test_no_stop(self):
        for stop in (0, -1, 1, 1201, 1202, 10 ** 30):
            self.assert_raises(NoColumn, {"number": stop}, columns, self.SHORT, 1, stop)
        self.assert_raises(NoColumn, {"number": 1199}, columns, self.SHORT, 1199, 1199)
        self.assert_raises(NoColumn, {"number": 1201}, columns, self.SHORT, 1199, 1201)
        self.assert_raises(NoColumn, {"number": 1200}, columns, self.SHORT, 1200, 1300)
        self.assert_raises(NoColumn, {"number": -1}, columns, self.SHORT, -1, 0)

    def test_too_long(self):
        self.assert_raises(TooLong, {}, columns, self.SHORT, 0, 1001)
        self.assert_raises(TooLong, {}, columns, self.SHORT, 199, 1200)
        self.assert_raises(TooLong, {}, columns, LONG, 0, LONG.count)
        self.assert_raises(NoColumn, {"number": 1201}, columns, self.SHORT, 0, 1201)
        for first, stop in ((0, 999), (0, 1000), (200, 1200), (201, 1200)):
            self.assert_same((BAR * 400)[first:stop], columns(self.SHORT, first, stop))
        first = 10 ** 11 + 1
        self.assert_same(tuple(BAR[n % 3] for n in range(first, first + 1000)), columns(LONG, first, first + 1000))

    def test_written(self):
        for many in (1, 2, 333):
            self.assert_same(BAR * many, written(Score((("bar", BAR), ("times", 0, many)))))
        thousand = Score((("bar", BAR[:1]), ("times", 0, 1000)))
        self.assert_same(BAR[:1] * 1000, written(thousand))
        self.assert_raises(TooLong, {}, written, Score((("bar", BAR[:1]), ("times", 0, 1001))))
        self.assert_raises(TooLong, {}, written, LONG)
        self.assert_same(BAR[:1] * 1000, written(Score((("bar", BAR[:1]), ("times", 0, MOST), ("cut", 1, 7, 1007)))))

    def test_no_moment(self):
        for moment in ((-1, 1), (-1, 10 ** 50), (1250, 3), (417, 1), (10 ** 60, 1), [-1, 3], [10 ** 40, 1], [1250, 3]):
            self.assert_raises(NoMoment, {"moment": moment}, column_at, self.SHORT, moment)
        self.assert_same((1250, 3), self.SHORT.duration)
        self.assert_answer(1199, column_at, self.SHORT, (1250 * 10 ** 30 - 1, 3 * 10 ** 30))
        self.assert_answer(0, column_at, self.SHORT, [0, 1])
        self.assert_answer(1, column_at, self.SHORT, [1, 4])

    def test_the_errors(self):
        self.assert_error_class(NoColumn)
        self.assert_error_class(NoMoment)
        self.assert_error_class(TooLong)


if __name__ == "__main__":
    unittest.main()

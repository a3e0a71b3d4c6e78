"""Promise [N5]: counterheld.sequences."""

import random
import unittest

from counterheld.bartexts import read_bar
from counterheld.moments import NoColumn, columns
from counterheld.primes import primes_of
from counterheld.scores import Score
from counterheld.sequences import repeated, sequence
from tests import plainlikeness, plainly
from tests.checks import Case
from tests.plainlikeness import bring, some_columns, some_rules

FAR = 10 ** 12


def sequence_rules(bar, interval, by, doublings):
    """Rules that raise and pace the bar once more and once more, 2 ** doublings times together."""
    rules = [("bar", bar)]
    for k in range(doublings):
        last, times = len(rules) - 1, 2 ** k
        rules += [
            ("raise", last, (interval[0] * times, interval[1] * times)), ("pace", last + 1, (by[0] ** times, by[1] ** times)),
            ("then", last, last + 2),
        ]
    return tuple(rules)


class FewColumns(Case):
    def test_of_chance(self):
        chance = random.Random(331)
        met = 0
        for _ in range(300):
            rules = some_rules(chance, chance.randint(1, 10), 40, chance.choice((1, 1, 2, 3)))
            score, row = Score(rules), plainly.written(rules)[-1]
            parts = [(0, len(row))]
            for _ in range(5):
                first = chance.randrange(len(row))
                parts.append((first, chance.randint(first + 1, len(row))))
            for first, stop in parts:
                wanted = plainlikeness.sequence(row[first:stop])
                self.assert_answer(wanted, sequence, score, first, stop)
                self.assert_answer(plainlikeness.repeated(row[first:stop]), repeated, score, first, stop)
                met += wanted[0] < stop - first
        self.assertGreater(met, 200)

    def test_raised_and_paced_once_more(self):
        chance = random.Random(332)
        for _ in range(80):
            bar = some_columns(chance, chance.randint(1, 6), chance.randint(1, 3))
            interval, by = chance.choice(((0, 0), (1, 0), (2, -3))), chance.choice(((1, 1), (2, 1), (2, 3)))
            rules = sequence_rules(bar, interval, by, chance.randint(1, 3))
            row = plainly.written(rules)[-1]
            self.assert_answer(plainlikeness.sequence(row), sequence, Score(rules), 0, len(row))
            first = chance.randrange(len(bar))
            part = row[first:len(row) - len(bar) + first]
            if part:
                self.assert_answer(plainlikeness.sequence(part), sequence, Score(rules), first, first + len(part))

    def test_one_column_is_changed(self):
        chance = random.Random(333)
        for _ in range(60):
            bar = some_columns(chance, 3, 2)
            row = list(plainly.written(sequence_rules(bar, (1, 0), (1, 1), 3))[-1])
            at = chance.randrange(len(row))
            row[at] = ((1, 7), row[at][1], row[at][2])
            score = Score((("bar", tuple(row)),))
            self.assert_answer(plainlikeness.sequence(row), sequence, score, 0, len(row))
            self.assert_answer(len(row), repeated, score, 0, len(row))

    def test_silence(self):
        bar = (((1, 4), 0, (None, None)), ((1, 8), 3, (None, None)))
        score = Score((("bar", bar), ("pace", 0, (3, 2)), ("then", 0, 1), ("raise", 2, (5, 5)), ("times", 3, 10 ** 9)))
        self.assert_answer((2, (0, 0), (3, 2)), sequence, score, 0, 4)
        self.assert_answer((4, (0, 0), (1, 1)), sequence, score, 0, 4 * 10 ** 9)
        self.assert_answer(4, repeated, score, 2, 4 * 10 ** 9 - 2)
        self.assert_answer((1, (0, 0), (1, 1)), sequence, score, 7, 8)
        late = Score((("bar", bar[:1] * 3 + (((1, 4), 0, (None, ((0, 4), True))),)),))
        self.assert_answer((4, (0, 0), (1, 1)), sequence, late, 0, 4)
        self.assert_answer((1, (0, 0), (1, 1)), sequence, late, 0, 3)


class Example(Case):
    """The line of the example at the end of the document, to the letter."""

    def test_line(self):
        bar = read_bar("1/4 C4 C3 | 1/8!1 E4 ~C3")
        score = Score((("bar", bar), ("raise", 0, (1, 0)), ("then", 0, 1), ("times", 2, 3), ("turn", 3, (0, 8))))
        told = sequence(score, 0, 4), sequence(score, 0, 12), repeated(score, 0, 4)
        self.assertEqual("((2, (-1, 0), (1, 1)), (4, (0, 0), (1, 1)), 4)", repr(told))


class ManyColumns(Case):
    def test_copies(self):
        chance = random.Random(334)
        for _ in range(40):
            bar = some_columns(chance, chance.randint(1, 12), chance.randint(1, 3))
            times = chance.choice((10 ** 10, 999999937, 720720 * 10 ** 3, 2 ** 33, 999983 * 9973))
            score = Score((("bar", bar), ("times", 0, times)))
            once = plainlikeness.repeated(bar * 2)
            self.assert_answer(once, repeated, score, 0, score.count)
            self.assert_answer((once, (0, 0), (1, 1)), sequence, score, 0, score.count)
            shift = chance.randrange(len(bar) + 1)
            self.assert_answer(once, repeated, score, shift, score.count - len(bar) + shift)
            changed = Score((("bar", bar), ("times", 0, times - 1), ("bar", some_columns(chance, len(bar), len(bar[0][2]))), ("then", 1, 2)))
            row = columns(changed, changed.count - len(bar), changed.count)
            if row != bar:
                self.assert_answer(changed.count, repeated, changed, 0, changed.count)

    def test_great_sequences(self):
        chance = random.Random(335)
        for _ in range(30):
            bar = some_columns(chance, chance.randint(1, 9), chance.randint(1, 3), silent=0.1)
            doublings = chance.randint(4, 9)
            rules = sequence_rules(bar, (1, 0), (1, 1), doublings)
            score = Score(rules)
            many, interval, by = sequence(score, 0, score.count)
            self.assertEqual(0, len(bar) % many)
            bridge = (1, tuple(range(score.voices)), interval, by)
            row = columns(score, 0, many + 200) if score.count > many + 200 else columns(score, 0, score.count)
            self.assertEqual([bring(column, bridge) for column in row[:-many]], list(row[many:]))
            if many == len(bar) and any(entry is not None for column in bar for entry in column[2]):
                self.assertEqual(((1, 0), (1, 1)), (interval, by))
            often = Score(rules + (("times", len(rules) - 1, 10 ** 8),))
            told = repeated(score, 0, score.count)
            self.assert_answer(told, repeated, often, 0, often.count)

    def test_numbers_of_few_great_primes(self):
        for size in (999983 * 999979, 999999999989, 10 ** 12, 2 ** 39, 9973 * 99999989, 999983 ** 2):
            score = Score((("bar", some_columns(random.Random(1), 1, 2, silent=0)), ("times", 0, size)))
            self.assert_answer(1, repeated, score, 0, size)
            self.assert_answer((1, (0, 0), (1, 1)), sequence, score, 0, size)


class Primes(Case):
    def test_primes(self):
        chance = random.Random(336)
        numbers = list(range(1, 2000)) + [chance.randint(1, FAR) for _ in range(100)]
        numbers += [999983 ** 2, 999983 * 999979, 9973 * 99999989, 10007 ** 2, 10007 * 10009, FAR, 2 ** 39, 999999999989, 10 ** 8, 10 ** 8 + 1]
        for number in numbers:
            told = primes_of(number)
            product = 1
            for prime in told:
                product *= prime
            self.assertEqual(number, product)
            self.assertEqual(told, sorted(told))
            for prime in set(told):
                self.assertTrue(prime > 1 and all(prime % k for k in range(2, min(prime, 1 + int(prime ** 0.5)))), number)


class Wrong(Case):
    def test_parts(self):
        score = Score((("bar", some_columns(random.Random(1), 3, 2)), ("times", 0, 4)))
        for first, stop, number in ((-1, 3, -1), (12, 13, 12), (0, 0, 0), (5, 5, 5), (0, 13, 13), (5, 2, 2), (FAR, 0, FAR)):
            self.assert_raises(NoColumn, {"number": number}, sequence, score, first, stop)
            self.assert_raises(NoColumn, {"number": number}, repeated, score, first, stop)


if __name__ == "__main__":
    unittest.main()

"""Promises [D2], [D3] and [D4]: counterheld.extents."""

import random
import unittest

from counterheld.extents import highest, lowest, signatures, widest
from counterheld.lines import NoVoice
from counterheld.moments import NoColumn
from counterheld.scores import Score
from tests import plainly
from tests.checks import Case

MOST = 10 ** 12
NO_VOICES = (-1, 4, 10 ** 30, True, False, None, "0", "", (), [0], {}, (0,))
ALL = tuple(range(-7, 8))


def height(tone):
    return 7 * tone[0] + 12 * tone[1]


def bar(*tones):
    """A bar of one voice, all tones of which begin."""
    return tuple(((1, 4), 0, (None if tone is None else (tone, True),)) for tone in tones)


def farthest(row, voice, first, stop, sign):
    told = None
    for number in range(first, stop):
        entry = row[number][2][voice]
        if entry is not None and (told is None or sign * height(entry[0]) > sign * height(told[0])):
            told = (entry[0], number)
    return told


def plain_widest(row, one, other):
    told = None
    for number, (_, _, entries) in enumerate(row):
        if entries[one] is not None and entries[other] is not None:
            width = height(entries[other][0]) - height(entries[one][0])
            if told is None or width > told[0]:
                told = (width, number)
    return told


def plain_signatures(row, first, stop):
    tones = [entry[0] for column in row[first:stop] for entry in column[2] if entry is not None]
    return tuple(s for s in range(-7, 8) if all(s - 1 <= f <= s + 5 for f, _ in tones))


class FewColumns(Case):
    def check(self, score, row, first, stop):
        for voice in range(score.voices):
            self.assert_answer(farthest(row, voice, first, stop, 1), highest, score, voice, first, stop)
            self.assert_answer(farthest(row, voice, first, stop, -1), lowest, score, voice, first, stop)
        self.assert_answer(plain_signatures(row, first, stop), signatures, score, first, stop)

    def test_of_chance(self):
        chance = random.Random(51)
        for _ in range(200):
            rules = plainly.some_rules(chance, chance.randint(1, 20))
            score, row = Score(rules), plainly.written(rules)[-1]
            self.check(score, row, 0, len(row))
            for _ in range(6):
                first = chance.randrange(len(row))
                self.check(score, row, first, chance.randint(first + 1, len(row)))
            for one in range(score.voices):
                for other in range(score.voices):
                    self.assert_answer(plain_widest(row, one, other), widest, score, one, other)

    def test_every_part(self):
        chance = random.Random(52)
        for _ in range(6):
            rules = plainly.some_rules(chance, 14, 25)
            score, row = Score(rules), plainly.written(rules)[-1]
            for first in range(len(row)):
                for stop in range(first + 1, len(row) + 1):
                    self.check(score, row, first, stop)

    def test_within_and_over_copies(self):
        rules = (("bar", bar((0, 4), None, (1, 4), (2, 3))), ("times", 0, 6))
        score, row = Score(rules), plainly.written(rules)[-1]
        for first in range(24):
            for stop in range(first + 1, 25):
                self.check(score, row, first, stop)


class Spellings(Case):
    """Tones of one height spelled in unlike ways: the first column counts."""

    def test_first_column_counts(self):
        one, other = (12, -3), (0, 4)
        self.assertEqual(height(one), height(other))
        for tones in ((one, other), (other, one), (one, other, one)):
            score = Score((("bar", bar(*tones)), ("times", 0, 5)))
            self.assert_answer((tones[0], 0), highest, score, 0, 0, score.count)
            self.assert_answer((tones[0], 0), lowest, score, 0, 0, score.count)
            self.assert_answer((tones[1], 1), highest, score, 0, 1, 3)
            turned = Score(score.rules + (("turn", 1, (3, 8)),))
            first = (3 - tones[0][0], 8 - tones[0][1])
            self.assert_answer((first, 0), highest, turned, 0, 0, turned.count)
            self.assert_answer((first, 0), lowest, turned, 0, 0, turned.count)

    def test_over_rules(self):
        one, other = (12, -3), (0, 4)
        rules = (("bar", bar((0, 0), one)), ("bar", bar(other, (0, 0))), ("then", 0, 1), ("then", 1, 0), ("raise", 3, (12, -7)))
        self.assert_answer((one, 1), highest, Score(rules[:3]), 0, 0, 4)
        self.assert_answer((other, 2), highest, Score(rules[:3]), 0, 2, 4)
        self.assert_answer((other, 0), highest, Score(rules[:4]), 0, 0, 4)
        self.assert_answer(((12, -3), 0), highest, Score(rules), 0, 0, 4)
        self.assert_answer(((12, -7), 1), lowest, Score(rules), 0, 0, 3)

    def test_widest(self):
        columns = (((1, 4), 0, (((12, -3), True), ((0, 4), True))), ((1, 4), 0, (((0, 4), False), ((12, -3), False))))
        score = Score((("bar", columns), ("turn", 0, (5, 5)), ("then", 1, 0)))
        for one, other in ((0, 0), (0, 1), (1, 0), (1, 1)):
            self.assert_answer((0, 0), widest, score, one, other)


class ManyColumns(Case):
    def test_copies_each_raised_once_more(self):
        """512 copies, the k-th raised k times, many times over."""
        for upside in (False, True):
            rules = [("bar", bar(None, (0, 4), (1, 3), None))]
            for k in range(9):
                rules += [("raise", len(rules) - 1, (2 ** k, -(2 ** (k - 1)) if k else 0)), ("then", len(rules) - 1, len(rules))]
            if upside:
                rules.append(("turn", len(rules) - 1, (0, 0)))
            small = Score(rules)
            row = plainly.written(rules)[-1]
            self.assertEqual(2048, len(row))
            rules.append(("times", len(rules) - 1, MOST // 2048))
            great = Score(rules)
            for score in (small, great):
                far = (score.count - 2048) // 2048 * 2048
                for first, stop in ((0, 2048), (1, 3), (5, 2047), (1000, 1100), (0, 1), (3, 4), (2046, 2047)):
                    for function, sign in ((highest, 1), (lowest, -1)):
                        told = farthest(row, 0, first, stop, sign)
                        self.assert_answer(told, function, score, 0, first, stop)
                        moved = None if told is None else (told[0], told[1] + far)
                        self.assert_answer(moved, function, score, 0, first + far, stop + far)
                    self.assert_answer(plain_signatures(row, first, stop), signatures, score, first + far, stop + far)
            told = farthest(row, 0, 0, 2048, 1)
            self.assert_answer(told, highest, great, 0, 0, great.count)
            over = farthest(row + row, 0, 2000, 2600, 1)
            self.assert_answer((over[0], over[1] + 2048 * 10 ** 6), highest, great, 0, 2000 + 2048 * 10 ** 6, 2600 + 2048 * 10 ** 6)
            self.assert_answer((0, 1), widest, great, 0, 0)

    def test_rules_of_chance_many_times(self):
        """What comes many times over has its extremes in its first copy, or in the part's first."""
        chance = random.Random(53)
        for _ in range(60):
            rules = plainly.some_rules(chance, chance.randint(1, 15), 40)
            row = plainly.written(rules)[-1]
            many = MOST // len(row)
            score = Score(rules + (("times", len(rules) - 1, many),))
            copy = chance.randrange(many - 3)
            first = chance.randrange(len(row))
            stop = chance.randint(first + 1, 3 * len(row))
            far = copy * len(row)
            for voice in range(score.voices):
                for function, sign in ((highest, 1), (lowest, -1)):
                    told = farthest(row * 3, voice, first, stop, sign)
                    moved = None if told is None else (told[0], told[1] + far)
                    self.assert_answer(moved, function, score, voice, first + far, stop + far)
                    told = farthest(row * 2, voice, first, first + len(row), sign)
                    self.assert_answer(told, function, score, voice, first, score.count)
                for other in range(score.voices):
                    self.assert_answer(plain_widest(row, voice, other), widest, score, voice, other)
            self.assert_answer(plain_signatures(row * 3, first, stop), signatures, score, first + far, stop + far)

    def test_great_scores(self):
        chance = random.Random(54)
        for _ in range(15):
            rules, counts = plainly.great_rules(chance, 45, 3000)
            score, row = Score(rules), plainly.written(rules)[-1]
            for _ in range(4):
                first = chance.randrange(len(row))
                stop = chance.randint(first + 1, len(row))
                for voice in range(score.voices):
                    self.assert_answer(farthest(row, voice, first, stop, 1), highest, score, voice, first, stop)
                    self.assert_answer(farthest(row, voice, first, stop, -1), lowest, score, voice, first, stop)
                    self.assert_answer(plain_widest(row, voice, 0), widest, score, voice, 0)
                self.assert_answer(plain_signatures(row, first, stop), signatures, score, first, stop)


class Silence(Case):
    def test_silent_voices_and_parts(self):
        columns = (((1, 4), 0, (None, ((0, 4), True))), ((1, 4), 0, (None, None)))
        score = Score((("bar", columns), ("times", 0, 10 ** 11)))
        self.assert_answer(None, highest, score, 0, 0, score.count)
        self.assert_answer(None, lowest, score, 0, 5, 10 ** 9)
        self.assert_answer(None, lowest, score, 1, 5, 6)
        self.assert_answer(((0, 4), 6), lowest, score, 1, 5, 7)
        self.assert_answer(None, widest, score, 0, 0)
        self.assert_answer(None, widest, score, 0, 1)
        self.assert_answer((0, 0), widest, score, 1, 1)
        self.assert_answer(ALL, signatures, score, 1, 2)
        self.assert_answer((-5, -4, -3, -2, -1, 0, 1), signatures, score, 1, 3)

    def test_never_together(self):
        columns = (((1, 4), 0, (None, ((0, 4), True))), ((1, 4), 0, (((0, 4), True), None)))
        self.assert_answer(None, widest, Score((("bar", columns), ("times", 0, 3))), 0, 1)

    def test_below_0(self):
        columns = (((1, 4), 0, (((0, 4), True), ((0, 2), True))), ((1, 4), 0, (((0, 4), False), ((0, 3), False))))
        score = Score((("bar", columns), ("times", 0, 3)))
        self.assert_answer((-12, 1), widest, score, 0, 1)
        self.assert_answer((24, 0), widest, score, 1, 0)
        turned = Score(score.rules + (("turn", 1, (0, 0)),))
        self.assert_answer((24, 0), widest, turned, 0, 1)
        self.assert_answer((-12, 1), widest, turned, 1, 0)


class Signatures(Case):
    def test_bounds(self):
        for f, wanted in (
            (-9, ()), (-8, (-7,)), (-7, (-7, -6)), (-1, (-6, -5, -4, -3, -2, -1, 0)), (0, (-5, -4, -3, -2, -1, 0, 1)),
            (5, (0, 1, 2, 3, 4, 5, 6)), (12, (7,)), (13, ()), (1000, ()), (-1000, ()),
        ):
            self.assert_answer(wanted, signatures, Score((("bar", bar((f, 0), None)),)), 0, 2)
        for low, high, wanted in ((-1, 5, (0,)), (-1, 6, ()), (-8, -2, (-7,)), (6, 12, (7,)), (5, 12, ()), (0, 4, (-1, 0, 1))):
            self.assert_answer(wanted, signatures, Score((("bar", bar((low, 9), (high, -9))),)), 0, 2)
            self.assert_answer(wanted, signatures, Score((("bar", bar((high, 9), (low, -9))), ("times", 0, 10 ** 11))), 1, 10 ** 11)


class Wrong(Case):
    SCORE = Score((("bar", bar((0, 4), None, (1, 1))), ("times", 0, 10)))

    def test_no_voice_is_first(self):
        for voice in NO_VOICES + (1,):
            for first, stop in ((0, 5), (-1, 5), (5, 5), (99, 100)):
                self.assert_raises(NoVoice, {}, highest, self.SCORE, voice, first, stop)
                self.assert_raises(NoVoice, {}, lowest, self.SCORE, voice, first, stop)
            self.assert_raises(NoVoice, {}, widest, self.SCORE, voice, 0)
            self.assert_raises(NoVoice, {}, widest, self.SCORE, 0, voice)
            self.assert_raises(NoVoice, {}, widest, self.SCORE, voice, voice)

    def test_no_column(self):
        for first in (-1, -30, 30, 31, 10 ** 40):
            for stop in (first, 5, 30, 99):
                self.assert_raises(NoColumn, {"number": first}, highest, self.SCORE, 0, first, stop)
                self.assert_raises(NoColumn, {"number": first}, lowest, self.SCORE, 0, first, stop)
                self.assert_raises(NoColumn, {"number": first}, signatures, self.SCORE, first, stop)
        for stop in (-1, 0, 4, 5, 31, 10 ** 40):
            self.assert_raises(NoColumn, {"number": stop}, highest, self.SCORE, 0, 5, stop)
            self.assert_raises(NoColumn, {"number": stop}, lowest, self.SCORE, 0, 5, stop)
            self.assert_raises(NoColumn, {"number": stop}, signatures, self.SCORE, 5, stop)
        self.assert_answer(((1, 1), 29), highest, self.SCORE, 0, 29, 30)


class Example(Case):
    def test_of_the_document(self):
        from counterheld.bartexts import read_bar

        rules = (("bar", read_bar("1/4 C4 C3 | 1/8!1 E4 ~C3")), ("raise", 0, (1, 0)), ("then", 0, 1), ("times", 2, 3), ("turn", 3, (0, 8)))
        score = Score(rules)
        self.assert_same((((0, 5), 0), ((-1, 5), 2)), (highest(score, 1, 0, 12), highest(score, 1, 2, 4)))


if __name__ == "__main__":
    unittest.main()

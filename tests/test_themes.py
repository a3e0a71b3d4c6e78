"""Promises [J1] to [J5]: counterheld.themes."""

import random
import unittest

from counterheld.bartexts import read_bar
from counterheld.lines import NoNote, NoVoice, note, note_count
from counterheld.moments import NoColumn
from counterheld.scores import Score, TooLong
from counterheld.themes import (
    BadTheme, NoPlace, commonest, kind_count, longest_twice, theme_count, theme_in, theme_of, theme_place,
)
from tests import plainly
from tests.checks import Case, within
from tests.plainpapers import deep
from tests.plainthemes import PlainVoice, some_melody, some_theme

MANNERS = ((False, False), (False, True), (True, False), (True, True))
NO_VOICES = (-1, 4, 10 ** 30, True, False, None, "0", "", (), [0], {}, (0,))
C = ((0, 4), True)


def melody(*notes):
    """A bar of one voice of notes (f, duration), None standing for silence."""
    return tuple((length, 0, (None if f is None else ((f, 4), True),)) for f, length in notes)


def some_rules(chance, many, most, plain):
    """Rules over melodies in which themes come again, so many, that make at most so many columns."""
    voices = chance.randint(1, 3)
    gaps = chance.choice((0, 0, 0.15))
    rules = [("bar", some_melody(chance, chance.randint(1, 9), gaps=gaps, voices=voices))]
    while len(rules) < many:
        rule = plainly.some_rule(chance, voices, [len(row) for row in plain(rules)], most)
        if rule is not None and rule[0] == "bar":
            rule = ("bar", some_melody(chance, chance.randint(1, 9), gaps=gaps, voices=voices))
        if rule is not None and rule[0] == "pace" and chance.random() < 0.6:
            rule = ("pace", rule[1], chance.choice(((2, 1), (1, 2))))
        if rule is not None:
            rules.append(rule)
    return tuple(rules)


class Themes(Case):
    """[J1], [J2] and [J3] against the columns written out."""

    def check(self, score, row, voice, theme):
        plain = PlainVoice(row, voice)
        met = 0
        for manner in MANNERS:
            wanted = plain.places(theme, manner)
            self.assert_answer(len(wanted), theme_count, score, voice, theme, manner)
            for number, told in enumerate(wanted):
                self.assert_same(told, theme_place(score, voice, theme, manner, number))
            for number in (len(wanted), len(wanted) + 1, -1):
                self.assert_raises(NoPlace, {}, theme_place, score, voice, theme, manner, number)
            for first in range(0, len(row), 5):
                for stop in {first + 1, (first + len(row) + 1) // 2, len(row)}:
                    told = len([place for place in wanted if first <= place[1] < stop])
                    self.assert_same(told, theme_in(score, voice, theme, manner, first, stop))
            met += len(wanted)
        return met

    def test_of_chance(self):
        chance = random.Random(201)
        met = 0
        for _ in range(150):
            rules = some_rules(chance, chance.randint(1, 14), 60, plainly.written)
            row = plainly.written(rules)[-1]
            score = Score(rules)
            for _ in range(3):
                voice = chance.randrange(score.voices)
                met += self.check(score, row, voice, some_theme(chance, PlainVoice(row, voice), chance.choice((3, 6, 40))))
        self.assertGreater(met, 1000)

    def test_columns_that_go_on(self):
        """Rules in which notes mostly go on, over the ends of rules and copies."""
        chance = random.Random(202)
        for _ in range(100):
            rules = plainly.some_rules(chance, chance.randint(1, 12), 60)
            row = plainly.written(rules)[-1]
            score = Score(rules)
            voice = chance.randrange(score.voices)
            self.check(score, row, voice, some_theme(chance, PlainVoice(row, voice), 5))

    def test_forty_notes(self):
        chance = random.Random(203)
        for times, many in ((9, 5), (3, 30), (50, 1), (2, 41), (1, 40), (1, 39)):
            bar = some_melody(chance, many, tones=2, lengths=1)
            rules = (("bar", bar), ("times", 0, times), ("turn", 1, (3, 3)), ("then", 1, 2))
            row = plainly.written(rules)[-1]
            for _ in range(6):
                theme = some_theme(chance, PlainVoice(row, 0))
                self.check(Score(rules), row, 0, theme)
            for size in (2, 39, 40):
                self.check(Score(rules), row, 0, (((0, 0), (1, 1)),) * size)

    def test_two_scores_in_turn(self):
        chance = random.Random(204)
        made = []
        for _ in range(2):
            rules = some_rules(chance, 12, 60, plainly.written)
            made.append((Score(rules), plainly.written(rules)[-1]))
        for score, row in made * 4:
            self.check(score, row, 0, some_theme(chance, PlainVoice(row, 0), 3))

    def test_both_signs_are_right(self):
        score = Score((("bar", melody(*[(1, (1, 4))] * 3 + [(2, (1, 4))])),))
        theme = (((7, 7), (1, 1)), ((7, 7), (1, 1)))
        for manner in MANNERS:
            wanted = 2 if manner[1] else 0
            self.assert_answer(wanted, theme_count, score, 0, theme, manner)
        self.assert_answer((1, 1, (1, (1, 4)), (-6, -3)), theme_place, score, 0, theme, (True, True), 1)
        self.assert_answer((1, 1, (1, (1, 4)), (-6, -3)), theme_place, score, 0, list(theme), [False, True], 1)
        step = (((7, 7), (1, 4)), ((6, 7), (5, 1)))
        self.assert_answer(0, theme_count, score, 0, step, (False, False))
        self.assert_answer((2, 2, (-1, (1, 1)), (8, 11)), theme_place, score, 0, step, (True, False), 0)

    def test_the_last_length_is_free(self):
        score = Score((("bar", melody((0, (1, 4)), (1, (3, 7)), (0, (1, 4)), (1, (1, 4)))),))
        for last in ((1, 1), (10 ** 30, 1), (3, 7)):
            theme = (((5, 5), (1, 4)), ((6, 5), last))
            self.assert_answer(2, theme_count, score, 0, theme, (False, False))
        self.assert_answer(1, theme_count, score, 0, (((0, 0), (7, 1)), ((-1, 0), (1, 1))), (False, True))

    def test_notes_with_silence_between(self):
        bar = melody((0, (1, 4)), (None, (1, 4)), (1, (1, 4)), (2, (1, 4)))
        score = Score((("bar", bar), ("times", 0, 3)))
        self.assert_answer(3, theme_count, score, 0, (((0, 0), (1, 4)), ((1, 0), (1, 4))), (False, False))
        self.assert_answer(2, theme_count, score, 0, (((0, 0), (1, 4)), ((2, 0), (1, 4))), (True, False))


class Example(Case):
    """The lines of the example at the end of the document, to the letter."""

    def test_lines(self):
        bar = read_bar("1/4 C4 C3 | 1/8!1 E4 ~C3")
        score = Score((("bar", bar), ("raise", 0, (1, 0)), ("then", 0, 1), ("times", 2, 3), ("turn", 3, (0, 8))))
        theme = (((0, 0), (1, 1)), ((-4, 2), (1, 1)))
        told = theme_count(score, 0, theme, (False, False)), theme_count(score, 0, theme, (False, True))
        self.assertEqual("(0, 6)", repr(told))
        self.assertEqual("(2, 2, (1, (1, 4)), (-1, 4))", repr(theme_place(score, 0, theme, (False, True), 1)))
        self.assertEqual("(((0, 0), (1, 1)), ((-4, 2), (1, 2)), ((-1, 0), (1, 1)))", repr(theme_of(score, 0, 0, 3)))
        told = kind_count(score, 0, 2, False), commonest(score, 0, 2, False), longest_twice(score, 0, False)
        self.assertEqual("(3, (0, 6), (8, 0, 4))", repr(told))


class Great(Case):
    """Scores of up to 10 ** 12 columns."""

    def check_places(self, score, voice, theme, manner, many):
        """The places are such, ascending, and as many as are counted in parts."""
        self.assertEqual(many, theme_count(score, voice, theme, manner))
        before = (-1, -1)
        for number in within({0, 1, 2, many // 3, many // 2, many - 2, many - 1}, many):
            place = theme_place(score, voice, theme, manner, number)
            first, column, (sign, by), interval = place
            rows = [note(score, voice, first + k) for k in range(len(theme))]
            self.assertEqual(column, rows[0][0])
            for (_, tone, _), (home, _) in zip(rows, theme):
                self.assertEqual(tone, (sign * home[0] + interval[0], sign * home[1] + interval[1]))
            for (_, _, (n, d)), (_, (wanted, parts)) in list(zip(rows, theme))[:-1]:
                self.assertEqual(n * parts * by[1], wanted * by[0] * d)
            self.assertLess(before, (number, first))
            before = (number, first)
            self.assertEqual(number, theme_in(score, voice, theme, manner, 0, column) if column else 0)
            self.assertEqual(many - number, theme_in(score, voice, theme, manner, column, score.count))
            self.assertEqual(1, theme_in(score, voice, theme, manner, column, column + 1))
        self.assert_raises(NoPlace, {}, theme_place, score, voice, theme, manner, many)

    def test_copies(self):
        """Behind some copies the count grows evenly, from copy to copy."""
        chance = random.Random(205)
        for _ in range(25):
            rules = some_rules(chance, chance.randint(1, 8), 30, plainly.written)
            last = len(rules) - 1
            more = (("times", last, 1), ("turn", last + 1, (3, 5)), ("voices", last + 2, tuple(range(Score(rules).voices))[::-1]), ("then", last + 1, last + 3))
            told = {}
            row = plainly.written(rules + more)[-1]
            voice = chance.randrange(Score(rules).voices)
            theme = some_theme(chance, PlainVoice(row, voice), 8)
            great = chance.choice((10 ** 6, 10 ** 10))
            for manner in MANNERS:
                for times in (41, 42, great):
                    score = Score(rules + (("times", last, times),) + more[1:])
                    told[times] = theme_count(score, voice, theme, manner)
                self.assertEqual(told[41] + (great - 41) * (told[42] - told[41]), told[great])
                self.check_places(score, voice, theme, manner, told[great])

    def test_nested(self):
        chance = random.Random(206)
        met = 0
        for _ in range(25):
            bar = some_melody(chance, 20, 2, 1, chance.choice((0, 0.1)), chance.randint(1, 3))
            rules, _ = plainly.great_rules(chance, chance.choice((5, 15, 40)), bar=bar)
            score = Score([("pace", rule[1], chance.choice(((2, 1), (1, 2)))) if rule[0] == "pace" else rule for rule in rules])
            voice = chance.randrange(score.voices)
            notes = note_count(score, voice)
            if notes < 4:
                continue
            theme = theme_of(score, voice, chance.randrange(notes - 3), 4)
            for manner in MANNERS:
                many = theme_count(score, voice, theme, manner)
                self.check_places(score, voice, theme, manner, many)
                met += many > 1000
        self.assertGreater(met, 10)


class Kinds(Case):
    """[J5] against each row held against each other one."""

    def check(self, score, row, voice, sizes):
        plain = PlainVoice(row, voice)
        for upside in (False, True):
            for many in sizes:
                self.assert_answer(len(plain.kinds(many, upside)), kind_count, score, voice, many, upside)
                self.assert_answer(plain.commonest(many, upside), commonest, score, voice, many, upside)
            self.assert_answer(plain.longest_twice(upside), longest_twice, score, voice, upside)
        many = len(plain.notes)
        for first in range(0, many, 3):
            for size in {2, 3, min(40, many - first)}:
                if 2 <= size <= many - first:
                    self.assert_answer(plain.theme(first, size), theme_of, score, voice, first, size)
        for first, size in ((-1, 2), (many, 2), (many - 1, 2), (many - 39, 40), (10 ** 30, 40)):
            if first < 0 or first + size > many:
                self.assert_raises(NoNote, {}, theme_of, score, voice, first, size)

    def test_of_chance(self):
        chance = random.Random(211)
        for _ in range(120):
            rules = some_rules(chance, chance.randint(1, 14), 50, plainly.written)
            score = Score(rules)
            self.check(score, plainly.written(rules)[-1], chance.randrange(score.voices), (2, 3, 7, 40))

    def test_columns_that_go_on(self):
        chance = random.Random(212)
        for _ in range(60):
            rules = plainly.some_rules(chance, chance.randint(1, 12), 50)
            score = Score(rules)
            self.check(score, plainly.written(rules)[-1], chance.randrange(score.voices), (2, 4))

    def test_long_rows(self):
        chance = random.Random(213)
        for many, times in ((21, 1), (5, 5), (1, 42)):
            rules = (("bar", some_melody(chance, many, 2, 1)), ("times", 0, times), ("turn", 1, (0, 8)), ("then", 1, 2))
            self.check(Score(rules), plainly.written(rules)[-1], 0, (2, 20, 39, 40))

    def test_the_first_of_several(self):
        up, down = [(0, (1, 4)), (1, (1, 4))], [(0, (1, 4)), (-1, (1, 4))]
        rest = [(None, (1, 4))]
        score = Score((("bar", melody(*up, *rest, *down, *rest, *down, *rest, *up)),))
        self.assert_answer((0, 2), commonest, score, 0, 2, False)
        self.assert_answer((2, 0, 6), longest_twice, score, 0, False)
        self.assert_answer((0, 4), commonest, score, 0, 2, True)
        self.assert_answer((2, 0, 2), longest_twice, score, 0, True)
        self.assert_answer(None, commonest, score, 0, 3, True)
        self.assert_answer(None, longest_twice, Score((("bar", melody(*up, *rest)),)), 0, True)
        self.assert_answer(0, kind_count, score, 0, 3, True)
        silent = Score((("bar", melody(*rest)), ("times", 0, 10 ** 12)))
        self.assert_answer(0, kind_count, silent, 0, 2, False)
        self.assert_answer(None, commonest, silent, 0, 2, False)
        self.assert_answer(None, longest_twice, silent, 0, False)
        # A kind that comes often is not the one that begins first.
        score = Score((("bar", melody(*up, *rest, *down, *rest, *down)),))
        self.assert_answer((2, 2), commonest, score, 0, 2, False)

    def test_many_columns(self):
        """Behind some copies there is no new kind, and the counts grow evenly."""
        chance = random.Random(214)
        for _ in range(30):
            rules = some_rules(chance, chance.randint(1, 8), 30, plainly.written)
            last, great = len(rules) - 1, chance.choice((10 ** 5, 10 ** 10))
            more = (("turn", last + 1, (3, 5)), ("then", last + 1, last + 2), ("pace", last + 3, (3, 1)))
            told = {}
            for times in (43, 44, great):
                score = Score(rules + (("times", last, times),) + more)
                voice, upside = 0, chance.random() < 2
                told[times] = [(kind_count(score, voice, many, upside), commonest(score, voice, many, upside)) for many in (2, 5, 40)]
                told[times].append(longest_twice(score, voice, upside))
            for one, other, far in zip(told[43][:3], told[44][:3], told[great][:3]):
                self.assertEqual({one[0]}, {one[0], other[0], far[0]})
                if one[1] is not None:
                    self.assertEqual(one[1][0], far[1][0])
                    self.assertEqual(one[1][1] + (great - 43) * (other[1][1] - one[1][1]), far[1][1])
            self.assertEqual(told[43][3], told[great][3])

    def test_great_scores(self):
        chance = random.Random(215)
        for _ in range(8):
            bar = some_melody(chance, 30, 3, 2, 0, 2)
            rules, _ = plainly.great_rules(chance, chance.choice((15, 40)), bar=bar)
            score = Score(rules)
            for upside in (False, True):
                first, often = commonest(score, 0, 3, upside)
                theme = theme_of(score, 0, first, 3)
                self.assertEqual(often, theme_count(score, 0, theme, (upside, True)))
                self.assertEqual(first, theme_place(score, 0, theme, (upside, True), 0)[0])
                many, first, second = longest_twice(score, 0, upside)
                theme = theme_of(score, 0, first, many)
                for number, told in enumerate((first, second)):
                    self.assertEqual(told, theme_place(score, 0, theme, (upside, True), number)[0])


class Paces(Case):
    """[J4]"""

    THEME = (((0, 0), (1, 4)), ((1, 0), (1, 1)))

    def tower(self, many, more=()):
        """Rules that come at 2 ** many - 1 paces each as often as may be: each doubles the paces of what is below."""
        rules = [("bar", melody((0, (1, 4)), (1, (1, 4))))]
        for k in range(many):
            last = len(rules) - 1
            rules += [("pace", last, (2 ** (k % 9) * 3 + 1, 1)), ("then", last, last + 1)]
        return tuple(rules) + more

    def paces(self, rules):
        """How many different paces all rules come at, together."""
        from fractions import Fraction

        told = [set() for _ in rules]
        told[-1].add(Fraction(1))
        for number in range(len(rules) - 1, -1, -1):
            rule = rules[number]
            by = Fraction(*rule[2]) if rule[0] == "pace" else 1
            for i in rule[1:{"bar": 1, "then": 3}.get(rule[0], 2)]:
                told[i] |= {pace * by for pace in told[number]}
        return sum(len(row) for row in told)

    def some_row(self, wanted):
        """Rules whose paces are together just so many."""
        rules = self.tower(6)
        while self.paces(rules) < wanted:
            more = rules + (("pace", len(rules) - 1, (1, 2)),)
            rest = wanted - self.paces(rules)
            if rest > 40:
                more = rules + (("pace", len(rules) - 1, (977, 1)), ("then", len(rules) - 1, len(rules)))
                more = more if self.paces(more) <= wanted else rules + (("times", len(rules) - 1, 1),)
            else:
                more = rules + (("times", len(rules) - 1, 1),)
            rules = more
        return rules

    def test_just_as_many_as_may_be(self):
        for wanted in (999, 1000, 1001):
            rules = self.some_row(wanted)
            self.assertEqual(wanted, self.paces(rules))
            self.assertLessEqual(len(rules), 58)
            unused = rules + (("pace", 0, (7, 9)), ("bar", melody((0, (1, 4)))), ("cut", len(rules) - 1, 0, 2))
            self.assertEqual(wanted, self.paces(rules))
            score = Score(rules)
            voice = 0
            for paced in (False, True):
                manner = (False, paced)
                if wanted > 1000 and not paced:
                    self.assert_raises(TooLong, {}, theme_count, score, voice, self.THEME, manner)
                    self.assert_raises(TooLong, {}, theme_in, score, voice, self.THEME, manner, -5, 0)
                    self.assert_raises(TooLong, {}, theme_place, score, voice, self.THEME, manner, -1)
                    self.assert_raises(BadTheme, {}, theme_place, score, voice, (), manner, -1)
                    self.assert_raises(NoVoice, {}, theme_place, score, None, (), manner, -1)
                else:
                    self.assertGreater(theme_count(score, voice, self.THEME, manner), 0)
                    self.assert_raises(NoPlace, {}, theme_place, score, voice, self.THEME, manner, -1)
            self.assertGreater(self.paces(unused), wanted - 1)
            self.assertGreater(theme_count(score, voice, self.THEME, [True, True]), 10)

    def test_rules_that_are_not_used(self):
        rules = self.some_row(1001)
        self.assertEqual(1, theme_count(Score(rules + (("cut", 0, 0, 2),)), 0, self.THEME, (False, False)))
        self.assertRaises(TooLong, theme_count, Score(rules + (("cut", len(rules) - 1, 0, 2),)), 0, self.THEME, (True, False))

    def test_against_the_columns(self):
        rules = self.tower(5)
        row, score = plainly.written(rules)[-1], Score(rules)
        plain = PlainVoice(row, 0)
        for length in {length for _, _, length in plain.notes}:
            theme = (((0, 0), length), ((1, 0), (1, 1)))
            self.assert_answer(len(plain.places(theme, (False, False))), theme_count, score, 0, theme, (False, False))

    def test_a_tower_beyond_all_counting(self):
        rules = self.tower(25, (("cut", 50, 10 ** 7, 10 ** 7 + 2),))
        score = Score(rules)
        self.assertRaises(TooLong, theme_count, score, 0, self.THEME, (False, False))
        self.assert_answer(2 ** 25, theme_count, Score(rules[:51]), 0, self.THEME, (False, True))


class Wrong(Case):
    SCORE = Score((("bar", melody((0, (1, 4)), (1, (1, 4)))), ("times", 0, 4)))
    THEME = (((0, 0), (1, 4)), ((1, 0), (1, 4)))

    def test_voices(self):
        for voice in NO_VOICES:
            self.assert_raises(NoVoice, {}, theme_count, self.SCORE, voice, None, (False, False))
            self.assert_raises(NoVoice, {}, theme_place, self.SCORE, voice, None, (False, False), -1)
            self.assert_raises(NoVoice, {}, theme_in, self.SCORE, voice, None, (False, False), -1, 0)
            self.assert_raises(NoVoice, {}, theme_of, self.SCORE, voice, -1, 2)
            self.assert_raises(NoVoice, {}, kind_count, self.SCORE, voice, 2, False)
            self.assert_raises(NoVoice, {}, commonest, self.SCORE, voice, 2, False)
            self.assert_raises(NoVoice, {}, longest_twice, self.SCORE, voice, False)

    def wrong_themes(self):
        good = ((0, 0), (1, 4))
        for thing in (None, True, 0, "", "ab", {}, {0: 1}, (), [], (good,), (good,) * 41, [good] * 50, deep(44), (good, {}), (good, "ab")):
            yield thing
        for pair in ((), None, (good,), ((0, 0),), ((0, 0), (1, 4), 1), "ab", {0: 1}, ((0,), (1, 4)), ((0, 0, 0), (1, 4)), deep(43)):
            yield (good, pair)
            yield [pair, good]
        for tone in (None, 0, (0, True), (False, 0), (None, 0), ("0", 0), ((0,), 0), "00", {}, {0: 0, 1: 1}):
            yield (good, (tone, (1, 4)))
        for length in ((0, 1), (-1, 4), (1, -4), (1, 0), (2, 8), (3, 0), (0, 0), (True, 4), (1, True), None, 1, "14", (1,), (1, 2, 3), {}, {1: 1, 4: 4}):
            yield (good, ((1, 0), length))
            yield [[[0, 0], length], good]

    def test_themes(self):
        for theme in self.wrong_themes():
            for manner in MANNERS:
                self.assert_raises(BadTheme, {}, theme_count, self.SCORE, 0, theme, manner)
                self.assert_raises(BadTheme, {}, theme_place, self.SCORE, 0, theme, manner, -1)
                self.assert_raises(BadTheme, {}, theme_in, self.SCORE, 0, theme, manner, -1, 0)

    def test_right_themes(self):
        self.assert_answer(4, theme_count, self.SCORE, 0, [[[0, 0], [1, 4]], [[1, 0], [1, 4]]], [False, False])
        self.assert_answer(4, theme_count, self.SCORE, 0, (((10 ** 40, -(10 ** 40)), (10 ** 40, 3)), ((10 ** 40 + 1, -(10 ** 40)), (1, 10 ** 40))), (False, True))
        self.assert_answer(0, theme_count, self.SCORE, 0, (((0, 0), (1, 4)),) * 40, (True, True))

    def test_parts(self):
        for first, stop, number in ((-1, 3, -1), (8, 9, 8), (9, 1, 9), (0, 0, 0), (3, 3, 3), (0, 9, 9), (5, -1, -1)):
            self.assert_raises(NoColumn, {"number": number}, theme_in, self.SCORE, 0, self.THEME, (False, False), first, stop)
        self.assert_answer(4, theme_in, self.SCORE, 0, self.THEME, (False, False), 0, 8)
        self.assert_answer(3, theme_in, self.SCORE, 0, self.THEME, (False, False), 1, 7)

    def test_errors(self):
        for error in (BadTheme, NoPlace):
            self.assert_error_class(error)

    def test_what_was_handed_in_may_be_changed(self):
        theme = [[[0, 0], [1, 4]], [[1, 0], [1, 4]]]
        self.assertEqual(4, theme_count(self.SCORE, 0, theme, (False, False)))
        theme[1][0][0] = 5
        self.assertEqual(0, theme_count(self.SCORE, 0, theme, (False, False)))
        self.assertEqual(4, theme_count(self.SCORE, 0, self.THEME, (False, False)))


if __name__ == "__main__":
    unittest.main()

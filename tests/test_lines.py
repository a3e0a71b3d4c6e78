"""Promise [D1]: counterheld.lines."""

import random
import unittest
from fractions import Fraction

from counterheld.lines import NoNote, NoVoice, note, note_at, note_count, notes_by_tone
from counterheld.moments import NoColumn, moment_of
from counterheld.scores import Score
from tests import plainly
from tests.checks import Case, within

MOST = 10 ** 12
C, G = (0, 4), (1, 4)
NO_VOICES = (-1, 4, 10 ** 30, True, False, None, "0", "", (), [0], {}, (0,))


def bar(*entries, duration=(1, 4)):
    """A bar of one voice."""
    return tuple((duration, 0, (entry,)) for entry in entries)


def plain_note_at(notes, columns, voice, number):
    """The number of the note that sounds in a column."""
    if columns[number][2][voice] is None:
        return None
    return max(k for k, told in enumerate(notes) if told[0] <= number)


def by_tone(notes):
    told = {}
    for _, (f, _), _ in notes:
        told[f] = told.get(f, 0) + 1
    return {f: told[f] for f in sorted(told)}


class FewColumns(Case):
    """Against what is written out."""

    def check(self, rules):
        score, row = Score(rules), plainly.written(rules)[-1]
        for voice in range(score.voices):
            wanted = plainly.notes(row, voice)
            self.assert_answer(len(wanted), note_count, score, voice)
            for number, told in enumerate(wanted):
                self.assert_same(told, note(score, voice, number))
            for number in (len(wanted), len(wanted) + 1, -1):
                self.assert_raises(NoNote, {}, note, score, voice, number)
            for number in range(len(row)):
                self.assert_same(plain_note_at(wanted, row, voice, number), note_at(score, voice, number))
            self.assert_answer(by_tone(wanted), notes_by_tone, score, voice)

    def test_of_chance(self):
        chance = random.Random(41)
        for _ in range(200):
            self.check(plainly.some_rules(chance, chance.randint(1, 20)))

    def test_sixty_rules(self):
        chance = random.Random(42)
        for _ in range(8):
            self.check(plainly.some_rules(chance, 60, 150))

    def test_long_notes(self):
        """Voices that hardly ever begin, so that notes go on over the ends of rules, cuts and copies."""
        chance = random.Random(43)
        for _ in range(100):
            rules = [("bar", bar(*[chance.choice(((C, False), (C, False), (C, False), (C, True), None)) for _ in range(4)]))]
            while len(rules) < 12:
                counts = [len(row) for row in plainly.written(rules)]
                rule = plainly.some_rule(chance, 1, counts, 80)
                if rule is not None and rule[0] in ("then", "times", "cut", "pace"):
                    rules.append(rule)
            self.check(tuple(rules))

    def test_notes_over_ends(self):
        for rules in (
            (("bar", bar((C, True), (C, False))), ("bar", bar((C, False), None)), ("then", 0, 1), ("times", 2, 3)),
            (("bar", bar((C, False), (C, False))), ("times", 0, 5), ("cut", 1, 3, 9), ("then", 2, 1)),
            (("bar", bar((C, True), (C, False), (G, False))), ("raise", 0, (1, 0)), ("then", 0, 1)),
            (("bar", bar((C, True), (C, False))), ("turn", 0, (0, 8)), ("then", 0, 1), ("times", 2, 4)),
            (("bar", bar((C, True), (G, False))), ("raise", 0, (1, 0)), ("then", 0, 1), ("cut", 2, 1, 4)),
            (("bar", bar((C, False))), ("pace", 0, (2, 3)), ("then", 0, 1), ("times", 2, 7)),
        ):
            self.check(rules)
        joined = Score((("bar", bar((C, True), (G, False))), ("raise", 0, (1, 0)), ("then", 0, 1)))
        self.assert_answer(4, note_count, joined, 0)
        self.assert_answer((0, C, (1, 4)), note, joined, 0, 0)
        held = Score((("bar", bar((C, True))), ("bar", bar((C, False))), ("pace", 1, (1, 3)), ("then", 0, 2)))
        self.assert_answer((0, C, (1, 3)), note, held, 0, 0)

    def test_voices_that_go_on_by_an_exchange(self):
        columns = (((1, 4), 0, ((C, True), (G, True))), ((1, 8), 0, ((C, False), (C, False))))
        rules = (("bar", columns), ("voices", 0, (1, 0)), ("then", 0, 1), ("times", 2, 3), ("cut", 3, 1, 10))
        self.check(rules)


class ManyColumns(Case):
    def test_a_note_through_all_copies(self):
        begun = bar((C, True))
        score = Score((("bar", bar((C, False))), ("bar", begun), ("times", 0, 10 ** 11), ("then", 1, 2)))
        self.assert_answer(1, note_count, score, 0)
        self.assert_answer((0, C, (10 ** 11 + 1, 4)), note, score, 0, 0)
        self.assert_answer({0: 1}, notes_by_tone, score, 0)
        for number in (0, 1, 10 ** 11):
            self.assert_answer(0, note_at, score, 0, number)
        loose = Score((("bar", bar((C, False), (C, False), duration=(1, 3))), ("times", 0, 10 ** 11)))
        self.assert_answer((0, C, (2 * 10 ** 11, 3)), note, loose, 0, 0)
        cut = Score(loose.rules + (("cut", 1, 12345, 10 ** 11 + 12345), ("then", 2, 1), ("pace", 3, (3, 1))))
        self.assert_answer((0, C, (3 * 10 ** 11, 1)), note, cut, 0, 0)
        self.assert_answer(1, note_count, cut, 0)

    def test_copies(self):
        score = Score((("bar", bar((C, True), (G, True), None, (G, False), (G, False))), ("times", 0, 2 * 10 ** 11)))
        many = 6 * 10 ** 11
        self.assert_answer(many, note_count, score, 0)
        self.assert_answer({0: 2 * 10 ** 11, 1: 4 * 10 ** 11}, notes_by_tone, score, 0)
        for number in (0, 1, 2, 3, 10 ** 11, many // 2, many - 3, many - 2, many - 1):
            copy, place = divmod(number, 3)
            told = ((0, C, (1, 4)), (1, G, (1, 4)), (3, G, (1, 2)))[place]
            self.assert_answer((5 * copy + told[0],) + told[1:], note, score, 0, number)
            self.assert_answer(number, note_at, score, 0, 5 * copy + told[0])
        self.assert_answer(many - 1, note_at, score, 0, score.count - 1)
        self.assert_answer(None, note_at, score, 0, score.count - 3)
        self.assert_raises(NoNote, {}, note, score, 0, many)

    def count_ahead(self, rules, counts, number, n, voice, kept):
        """How many notes begin among the columns 1 to n - 1 of a rule, going from rule to rule."""
        if n <= 1:
            return 0
        key = (number, n, voice)
        if key not in kept:
            kept[key] = self.way_to_count(rules, counts, number, n, voice, kept)
        return kept[key]

    def begins_at(self, rules, counts, number, n, voice):
        """Whether a note begins in the column n, at least 1, of a rule."""
        one, other = [plainly.column_of(rules, counts, number, k)[2][voice] for k in (n - 1, n)]
        return other is not None and (other[1] or one is None or one[0] != other[0])

    def way_to_count(self, rules, counts, number, n, voice, kept):
        def ahead(i, many):
            return self.count_ahead(rules, counts, i, many, voice if rule[0] != "voices" else rule[2][voice], kept)

        rule = rules[number]
        if rule[0] == "bar":
            return sum(self.begins_at(rules, counts, number, k, voice) for k in range(1, n))
        i = rule[1]
        if rule[0] == "then" and n > counts[i]:
            met = self.begins_at(rules, counts, number, counts[i], voice)
            return ahead(i, counts[i]) + met + ahead(rule[2], n - counts[i])
        if rule[0] == "times" and n > counts[i]:
            copies, rest = divmod(n - 1, counts[i])
            met = self.begins_at(rules, counts, number, counts[i], voice)
            return copies * (ahead(i, counts[i]) + met) + ahead(i, rest + 1)
        if rule[0] == "cut":
            return ahead(i, rule[2] + n) - ahead(i, rule[2] + 1)
        return ahead(i, n)

    def check(self, chance, rules, counts):
        score, last, kept, moments = Score(rules), len(rules) - 1, {}, {}

        def entry_at(n, voice):
            return plainly.column_of(rules, counts, last, n)[2][voice] if n < counts[-1] else None

        for voice in range(score.voices):
            first = int(entry_at(0, voice) is not None)
            total = first + self.count_ahead(rules, counts, last, counts[-1], voice, kept)
            self.assertEqual(total, note_count(score, voice))
            self.assertEqual(total, sum(notes_by_tone(score, voice).values()))
            numbers = {0, 1, total // 2, total - 2, total - 1} | {chance.randrange(max(1, total)) for _ in range(6)}
            for number in sorted(k for k in numbers if 0 <= k < total):
                start, tone, length = note(score, voice, number)
                self.assertEqual(number + 1, first + self.count_ahead(rules, counts, last, start + 1, voice, kept))
                if start > 0:
                    self.assertTrue(self.begins_at(rules, counts, last, start, voice))
                self.assertEqual(tone, entry_at(start, voice)[0])
                self.assertEqual(number, note_at(score, voice, start))
                # The length leads to the column behind the note's last one.
                end = Fraction(*moment_of(score, start)) + Fraction(*length)
                stop = start + 1
                while stop < counts[-1] and entry_at(stop, voice) == (tone, False) and stop < start + 300:
                    stop += 1
                if stop < start + 300:
                    self.assertEqual(plainly.moment_of(rules, counts, last, stop, moments), end)
                    self.assertEqual(number, note_at(score, voice, stop - 1))

    def test_of_chance(self):
        chance = random.Random(44)
        for _ in range(25):
            rules, counts = plainly.great_rules(chance, chance.choice((6, 20, 60)))
            self.check(chance, rules, counts)

    def test_tones_of_great_scores(self):
        chance = random.Random(45)
        for _ in range(12):
            rules, counts = plainly.great_rules(chance, 40, 4000)
            score, row = Score(rules), plainly.written(rules)[-1]
            for voice in range(score.voices):
                wanted = plainly.notes(row, voice)
                self.assert_answer(by_tone(wanted), notes_by_tone, score, voice)
                for number in within({0, len(wanted) // 2, len(wanted) - 1}, len(wanted)):
                    self.assert_answer(wanted[number], note, score, voice, number)

    def test_two_scores_asked_in_turn(self):
        one = Score((("bar", bar((C, True), None)), ("times", 0, 10 ** 9)))
        other = Score((("bar", bar((G, True), (C, False), (C, False))), ("times", 0, 10 ** 9)))
        for _ in range(2):
            self.assert_answer((2 * 10 ** 6, C, (1, 4)), note, one, 0, 10 ** 6)
            self.assert_answer((3 * 10 ** 6 // 2, G, (1, 4)), note, other, 0, 10 ** 6)
            self.assert_answer((3 * 10 ** 6 // 2 + 1, C, (1, 2)), note, other, 0, 10 ** 6 + 1)
            self.assert_answer(({0: 10 ** 9}, {0: 10 ** 9, 1: 10 ** 9}), lambda: tuple(notes_by_tone(s, 0) for s in (one, other)))


class Tones(Case):
    def test_ascending_and_without_numbers_0(self):
        score = Score((("bar", bar(((5, 0), True), ((-3, 0), True), None, ((5, 9), False), ((0, 0), True))), ("turn", 0, (1, 1))))
        self.assert_answer({-4: 2, 1: 1, 4: 1}, notes_by_tone, score, 0)
        self.assert_answer({}, notes_by_tone, Score((("bar", bar(None, None)), ("times", 0, 10 ** 9))), 0)
        unused = Score((("bar", bar((C, True))), ("bar", bar((G, True)))))
        self.assert_answer({1: 1}, notes_by_tone, unused, 0)

    def test_may_be_changed(self):
        score = Score((("bar", bar((C, True), (G, True))),))
        told = notes_by_tone(score, 0)
        told[0] = 7
        told.clear()
        self.assert_answer({0: 1, 1: 1}, notes_by_tone, score, 0)


class Wrong(Case):
    SCORE = Score((("bar", bar((C, True), None, (C, False))), ("times", 0, 10)))

    def test_no_voice_is_first(self):
        for voice in NO_VOICES + (1,):
            self.assert_raises(NoVoice, {}, note_count, self.SCORE, voice)
            self.assert_raises(NoVoice, {}, notes_by_tone, self.SCORE, voice)
            for number in (0, -1, 99):
                self.assert_raises(NoVoice, {}, note, self.SCORE, voice, number)
                self.assert_raises(NoVoice, {}, note_at, self.SCORE, voice, number)
        four = Score((("bar", (((1, 4), 0, (None,) * 4),)),))
        for voice in range(4):
            self.assert_answer(0, note_count, four, voice)
        self.assert_raises(NoVoice, {}, note_count, four, 4)

    def test_no_note(self):
        for number in (-1, -20, 20, 21, 10 ** 40):
            self.assert_raises(NoNote, {}, note, self.SCORE, 0, number)
        self.assert_answer((29, C, (1, 4)), note, self.SCORE, 0, 19)
        silent = Score((("bar", bar(None)),))
        self.assert_raises(NoNote, {}, note, silent, 0, 0)
        self.assert_answer(None, note_at, silent, 0, 0)

    def test_no_column(self):
        for number in (-1, 30, 31, 10 ** 40):
            self.assert_raises(NoColumn, {"number": number}, note_at, self.SCORE, 0, number)

    def test_the_errors(self):
        self.assert_error_class(NoVoice)
        self.assert_error_class(NoNote)


class Example(Case):
    def test_of_the_document(self):
        from counterheld.bartexts import read_bar

        rules = (("bar", read_bar("1/4 C4 C3 | 1/8!1 E4 ~C3")), ("raise", 0, (1, 0)), ("then", 0, 1), ("times", 2, 3), ("turn", 3, (0, 8)))
        score = Score(rules)
        self.assert_same((12, 6, (2, (-1, 5), (3, 8))), (note_count(score, 0), note_count(score, 1), note(score, 1, 1)))


if __name__ == "__main__":
    unittest.main()

"""Promise [0.2]: scores with the same columns by other rules tell the same, for all parts with scores."""

import random
import unittest

from counterheld.alike import alike, alike_back, alike_for, bridges_between, difference_at, first_difference, follows
from counterheld.books import Book
from counterheld.breaking import ends_of, pieces_of, turns_of
from counterheld.broken import broken, broken_count, broken_in, first_broken, last_broken, lets, state_behind, why
from counterheld.costs import cheapest, filling_by_cost, potentials
from counterheld.errors import ScoreError
from counterheld.extents import highest, lowest, signatures, widest
from counterheld.gaps import blocked, filling_at, filling_count
from counterheld.likeness import likeness_paper, shows_alike
from counterheld.lines import NoNote, note, note_at, note_count, notes_by_tone
from counterheld.moments import column, column_at, columns, grid, moment_of, written
from counterheld.papers import paper_of, shows
from counterheld.refrains import refrain_count
from counterheld.scores import BadScore, Score
from counterheld.sequences import repeated, sequence
from counterheld.tempos import column_at_time, column_time
from counterheld.themes import commonest, kind_count, longest_twice, theme_count, theme_in, theme_of, theme_place
from tests import plainbooks, plainboxes, plainly
from tests.checks import Case, within


def fits_in_bars(columns):
    """Whether the columns may stand in bars as they are."""
    numbers = [number for duration, _, _ in columns for number in duration]
    return max(numbers) <= 1000


def in_bars(columns):
    """Rules that write the columns out in bars, one behind another."""
    rules = [("bar", columns[:64])]
    for first in range(64, len(columns), 64):
        last = len(rules) - 1
        rules += [("bar", columns[first:first + 64]), ("then", last, last + 1)]
    return tuple(rules)


def others(chance, rules):
    """Rules that make the same columns otherwise."""
    score = Score(rules)
    last, count, voices = len(rules) - 1, score.count, score.voices
    order = chance.sample(range(voices), voices)
    back = [order.index(v) for v in range(voices)]
    middle = chance.randrange(count)
    told = [
        (("raise", last, (2, -3)), ("raise", last + 1, (-2, 3))),
        (("turn", last, (3, 7)), ("turn", last + 1, (3, 7))),
        (("turn", last, (3, 7)), ("turn", last + 1, (0, 0)), ("raise", last + 2, (3, 7))),
        (("turn", last, (0, 0)), ("turn", last + 1, (3, 7)), ("raise", last + 2, (-3, -7))),
        (("pace", last, (3, 7)), ("pace", last + 1, (7, 3))),
        (("voices", last, order), ("voices", last + 1, back)),
        (("times", last, 1), ("then", last, last), ("cut", last + 2, middle, middle + count), ("cut", last + 2, count, 2 * count)),
    ]
    if middle > 0:
        told.append((("cut", last, 0, middle), ("cut", last, middle, count), ("then", last + 1, last + 2)))
    if count < 10 ** 10:
        told.append((("times", last, 5), ("times", last + 1, 3), ("cut", last + 2, 7 * count, 8 * count)))
    if rules[-1][0] == "times":
        i, many = rules[-1][1:]
        size = score.counts()[i]
        for one in (2, 3):
            if many > one:
                # So many copies, as many again as may be, and the rest.
                row = [("times", i, one), ("times", last + 1, many // one)]
                if many % one > 0:
                    row += [("times", i, many % one), ("then", last + 2, last + 3)]
                told += [tuple(row), (("times", i, many - one), ("cut", last, 0, one * size), ("then", last + 2, last + 1))]
    made = []
    for more in told:
        try:
            made.append(Score(rules + more))
        except BadScore as wrong:
            # Tones that would lie too far on the way there and back.
            assert wrong.reason in ("large", "count"), (wrong.number, wrong.reason)
    return made


class Same(Case):
    def told(self, function, *arguments):
        """What is answered, or the error with its attributes."""
        try:
            return repr(function(*arguments))
        except ScoreError as wrong:
            return repr((wrong.__class__, vars(wrong)))

    def agree(self, scores, function, *arguments):
        wanted = self.told(function, scores[0], *arguments)
        for score in scores[1:]:
            self.assertEqual(wanted, self.told(function, score, *arguments), (function, arguments, score.rules))

    def check(self, chance, scores):
        count = scores[0].count
        moves = plainbooks.moves_of(columns(scores[0], 0, min(1000, count)))
        plain = plainbooks.some_book(chance, 10, chance.choice((1, 6, 24)), 8, moves=moves)
        book = Book(*plain)
        numbers = {0, 1, count // 2, count - 1, chance.randrange(count)}
        parts = [(0, count), (-1, 2), (count, count), (0, count + 1), (0, 0)]
        for _ in range(4):
            first = chance.randrange(count)
            parts.append((first, chance.randint(first + 1, count)))
        for voice in (0, 1, 2, 3, -1, 4, None):
            self.agree(scores, note_count, voice)
            self.agree(scores, notes_by_tone, voice)
            self.agree(scores, widest, 0, voice)
            self.agree(scores, widest, voice, voice)
            for number in sorted(numbers | {-1, count}):
                self.agree(scores, note, voice, number)
                self.agree(scores, note_at, voice, number)
            for first, stop in parts:
                self.agree(scores, highest, voice, first, stop)
                self.agree(scores, lowest, voice, first, stop)
        for first, stop in parts:
            self.agree(scores, signatures, first, stop)
            self.agree(scores, broken_in, book, first, stop)
        for function in (broken_count, lets, first_broken, last_broken):
            self.agree(scores, function, book)
        many = broken_count(scores[0], book)
        for number in within({0, 1, many // 2, many - 1}, many) + [-1, many]:
            self.agree(scores, broken, book, number)
        for number in sorted(numbers | {-1, count}):
            self.agree(scores, state_behind, book, number)
            self.agree(scores, why, book, number)
        for score in scores:
            paper = paper_of(score, book)
            self.assertTrue(shows(score, book, paper, many))
            self.assertFalse(shows(score, book, paper, many + 1))
        self.check_gaps(chance, scores)
        self.check_themes(chance, scores, parts)
        self.check_likeness(chance, scores, parts)
        for number in (-1, 0, count // 3, count):
            self.agree(scores, column, number)
            self.agree(scores, moment_of, number)
            self.agree(scores, column_at, (number, 3))
        self.agree(scores, written)
        self.agree(scores, grid)
        self.check_pieces(chance, scores, book, parts)

    def check_themes(self, chance, scores, parts):
        voice = chance.randrange(scores[0].voices)
        for number in (-1, 0, note_count(scores[0], voice) // 2, 10 ** 30):
            self.agree(scores, theme_of, voice, number, 3)
        for upside in (False, True):
            for many in (2, 5):
                self.agree(scores, kind_count, voice, many, upside)
                self.agree(scores, commonest, voice, many, upside)
            self.agree(scores, longest_twice, voice, upside)
        try:
            theme = theme_of(scores[0], voice, note_count(scores[0], voice) // 2, 2)
        except NoNote:
            theme = (((0, 0), (1, 1)), ((0, 0), (1, 1)))
        for manner in ((False, False), (True, False), (True, True)):
            told = scores
            if not manner[1]:
                told = [score for score in scores if "TooLong" not in self.told(theme_count, score, voice, theme, manner)]
            if told:
                many = theme_count(told[0], voice, theme, manner)
                self.agree(told, theme_count, voice, theme, manner)
                for number in (-1, 0, many // 2, many - 1, many):
                    self.agree(told, theme_place, voice, theme, manner, number)
                for first, stop in parts:
                    self.agree(told, theme_in, voice, theme, manner, first, stop)

    def check_likeness(self, chance, scores, parts):
        count, voices = scores[0].count, scores[0].voices
        rules = scores[-1].rules[:59]
        changed = Score(rules + (("pace", len(rules) - 1, (1, 2)),))
        bridge = (-1, tuple(range(voices))[::-1], (0, 1), (1, 1))
        for other in (scores[0], changed):
            for told in (bridge, (1,) + (tuple(range(voices)), (0, 0), (1, 1))):
                for first in (-1, 0, count // 3):
                    self.agree(scores, alike_for, first, other, other.count // 5, told)
                    self.agree(scores, alike_back, first + 1, other, other.count // 5 + 1, told)
                    self.agree(scores, lambda score: alike_for(other, other.count // 5, score, first, told))
            self.agree(scores, alike, other)
            self.agree(scores, first_difference, other)
            self.agree(scores, lambda score: difference_at(other, score, 7))
            self.agree(scores, bridges_between, other)
            self.agree(scores, lambda score: bridges_between(other, score))
        for first, stop in parts:
            self.agree(scores, sequence, first, stop)
            self.agree(scores, repeated, first, stop)
        for distance in (0, 1, count // 2, count):
            self.agree(scores, follows, chance.randrange(voices), chance.randrange(voices), distance)
        plain = (1, tuple(range(voices)), (0, 0), (1, 1))
        for score in scores[1:]:
            self.assertEqual("True", self.told(alike, scores[0], score))
            self.assertEqual("True", self.told(shows_alike, scores[0], score, plain, likeness_paper(scores[0], score, plain)))

    def check_pieces(self, chance, scores, book, parts):
        tempos = (((0, 1), (60, 1)), ((3, 2), (7, 5)))
        for first, stop in parts:
            near = min(stop, first + 30)
            self.agree(scores, column_time, tempos, (7, 3), first)
            self.agree(scores, column_at_time, tempos, (7, 3), (first + stop, 7))
            self.agree(scores, ends_of, book, (0,), first, stop)
            self.agree(scores, ends_of, book, (0, 3), first, near)
            self.agree(scores, pieces_of, first, (near,), (1, 2))
            self.agree(scores, turns_of, first, (near,))
            self.agree(scores, turns_of, first, (stop,))

    def check_gaps(self, chance, scores):
        voices = scores[0].voices
        box = plainboxes.some_marked_box(chance, voices, 2, 2)
        ends = [column for n in (0, scores[0].count - 1) for column in columns(scores[0], n, n + 1)]
        book = Book(*plainboxes.some_moving_book(chance, box, 4, 0.1, ends))
        other = Score((("bar", plainly.some_bar(chance, voices, 3)),))
        for gap_of in (lambda score: (score, box, 3, other), lambda score: (other, box, 3, score), lambda score: (score, box, 3, score)):
            self.agree(scores, lambda score: filling_count(gap_of(score), book))
            self.agree(scores, lambda score: filling_at(gap_of(score), book, 1))
            self.agree(scores, lambda score: blocked(gap_of(score), book))
            self.agree(scores, lambda score: cheapest(gap_of(score), book, (1, 5)))
            self.agree(scores, lambda score: filling_by_cost(gap_of(score), book, (1, 5), 3))
            self.agree(scores, lambda score: potentials(gap_of(score), book, (1, 5)))
        self.agree(scores, lambda score: refrain_count((score, box, 2, score, other), book))
        self.agree(scores, lambda score: refrain_count((other, box, 2, other, score), book))

    def test_few_columns(self):
        chance = random.Random(141)
        for _ in range(30):
            rules = plainly.some_rules(chance, chance.randint(1, 14), 150)
            row = plainly.written(rules)[-1]
            scores = [Score(rules)] + others(chance, rules)
            if fits_in_bars(row):
                scores.append(Score(in_bars(row)))
            self.check(chance, scores)

    def test_many_columns(self):
        chance = random.Random(142)
        for _ in range(12):
            rules, counts = plainly.great_rules(chance, chance.choice((4, 12, 40)), 10 ** 11)
            self.check(chance, [Score(rules)] + others(chance, rules))

    def test_copies_of_copies(self):
        chance = random.Random(143)
        for _ in range(8):
            bar = plainly.some_bar(chance, chance.randint(1, 4), 5)
            scores = [Score((("bar", bar),) + more) for more in (
                (("times", 0, 60 * 10 ** 9),), (("times", 0, 60), ("times", 1, 10 ** 9)), (("times", 0, 10 ** 9), ("times", 1, 60)),
                (("then", 0, 0), ("then", 1, 0), ("times", 2, 2 * 10 ** 10)), (("times", 0, 7), ("times", 1, 10 ** 10), ("cut", 2, 3 * len(bar), (60 * 10 ** 9 + 3) * len(bar))),
            )]
            self.check(chance, scores)


class Unused(Case):
    def test_rules_that_are_not_used(self):
        """They say nothing of the score."""
        chance = random.Random(144)
        same = Same()
        for _ in range(15):
            rules = plainly.some_rules(chance, 8)
            voices = len(rules[0][1][0][2])
            unused = (("bar", plainly.some_bar(chance, voices, 5)), ("turn", 0, (1, 1)), ("times", 1, 10 ** 9))
            moved = []
            for rule in rules:
                numbers = {"bar": 0, "then": 2}.get(rule[0], 1)
                moved.append(rule[:1] + tuple(i + 3 for i in rule[1:1 + numbers]) + rule[1 + numbers:])
            same.check(chance, [Score(rules), Score(unused + tuple(moved))])


if __name__ == "__main__":
    unittest.main()

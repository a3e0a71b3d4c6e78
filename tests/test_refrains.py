"""Promise [I7]: counterheld.refrains."""

import random
import unittest

from counterheld.books import Book, run
from counterheld.boxes import word_score
from counterheld.broken import broken_in
from counterheld.refrains import refrain_at, refrain_count
from counterheld.scores import Score
from tests import plainboxes
from tests.checks import Case
from tests.test_gaps import ALL, BOOK, BOX, NOTHING, ONE, some_gap


class Refrains(Case):
    def check(self, plain, refrain, book):
        wanted = plain.fillings()
        self.assert_answer(len(wanted), refrain_count, refrain, book)
        for index, word in enumerate(wanted):
            self.assert_same(word, refrain_at(list(refrain), book, index))
        for index in (-1, len(wanted), len(wanted) + 1, 10 ** 40):
            self.assert_answer(None, refrain_at, refrain, book, index)
        return len(wanted)

    def test_of_chance(self):
        chance = random.Random(131)
        some = 0
        for _ in range(300):
            plain, refrain, book = some_gap(chance, 4, middle=True, often=chance.choice((0.05, 0.2, 0.4)), least=1)
            many = self.check(plain, refrain, book)
            some += 0 < many < len(plain.box) ** plain.number
        self.assertGreater(some, 20)

    def test_words_that_are_let_just_once(self):
        # The state behind the middle is another one than that behind the score ahead.
        tests = (("accent", 1), ("accent", 2))
        plain = tests, ((((0,), (), 0, False), ((1,), (), 1, False)), (((0,), (), 1, True), ((1,), (), 2, False)), (((0,), (), 0, False), ((1,), (), 2, True)))
        for ahead in ((0,), (1,), (1, 1)):
            for middle in ((0,), (1,), (0, 1), (1, 1)):
                scores = [word_score(BOX, word) for word in (ahead, middle, (0,))]
                rows = [plainboxes.columns_of(BOX, word) for word in (ahead, middle, (0,))]
                for number in (1, 2, 3, 5):
                    told = plainboxes.Gap(rows[0], BOX, number, rows[2], plain, rows[1])
                    self.check(told, (scores[0], BOX, number, scores[1], scores[2]), Book(*plain))

    def test_long_scores(self):
        chance = random.Random(132)
        met = set()
        for _ in range(25):
            plain, refrain, book = some_gap(chance, 3, middle=True, often=0.1, least=1)
            rules = [score.rules + (("times", len(score.rules) - 1, 10 ** 10 + chance.randrange(9)),) for score in (refrain[0],) + refrain[3:]]
            scores = [Score(row) for row in rules]
            wanted = [word for word in plainboxes.words(len(plain.box), plain.number) if self.is_filled(plain.box, word, rules, book)]
            told = (scores[0], plain.box, plain.number, scores[1], scores[2])
            self.assert_answer(len(wanted), refrain_count, told, book)
            self.assert_answer(wanted, lambda: [refrain_at(told, book, index) for index in range(len(wanted))])
            met.add(len(wanted))
        self.assertGreater(len(met), 2)

    def is_filled(self, box, word, rules, book):
        """By one score of all five."""
        row = [("bar", plainboxes.columns_of(box, word))]
        ends = []
        for part in rules:
            by = len(row)
            for rule in part:
                numbers = {"bar": 0, "then": 2}.get(rule[0], 1)
                row.append(rule[:1] + tuple(i + by for i in rule[1:1 + numbers]) + rule[1 + numbers:])
            ends.append(len(row) - 1)
        last = ends[0]
        for part in (0, ends[1], 0, ends[2]):
            row.append(("then", last, part))
            last = len(row) - 1
        score = Score(row)
        ahead = score.counts()[ends[0]]
        return broken_in(score, book, ahead, score.count) == 0

    def test_many_bars(self):
        for number in (1, 2, 15, 16):
            self.assert_answer(2 ** number, refrain_count, (ONE, BOX, number, ONE, ONE), ALL)
            self.assert_answer((1,) * number, refrain_at, (ONE, BOX, number, ONE, ONE), ALL, 2 ** number - 1)
            self.assert_answer(None, refrain_at, (ONE, BOX, number, ONE, ONE), ALL, 2 ** number)
            self.assert_answer(0, refrain_count, (ONE, BOX, number, ONE, ONE), NOTHING)
            self.assert_answer(None, refrain_at, (ONE, BOX, number, ONE, ONE), NOTHING, 0)
        twelve = (BOX[0],) * 12
        self.assert_answer(12 ** 16, refrain_count, (ONE, twelve, 16, ONE, ONE), ALL)
        index = 12 ** 16 // 7
        word = refrain_at((ONE, twelve, 16, ONE, ONE), ALL, index)
        self.assertEqual(index, sum(bar * 12 ** (15 - k) for k, bar in enumerate(word)))
        self.assert_answer((11,) * 16, refrain_at, (ONE, twelve, 16, ONE, ONE), ALL, 12 ** 16 - 1)
        # Words that begin and end with 0, without a 1 behind a 1.
        self.assert_answer(610, refrain_count, (ONE, BOX, 15, ONE, ONE), BOOK)
        self.assert_answer((0, 1) * 7 + (0,), refrain_at, (ONE, BOX, 15, ONE, ONE), BOOK, 609)

    def test_many_states(self):
        """A book that counts the bars 1 modulo 24, and breaks where it comes to 0 with another bar."""
        tests = (("accent", 1),)
        plain = tests, tuple((((0,), (), (s + 1) % 24, False), ((), (), s, s == 23)) for s in range(24))
        book = Book(*plain)
        zero = Score((("bar", BOX[0]),))
        many = 0
        for word in plainboxes.words(2, 10):
            row = [BOX[0]] + [BOX[bar] for bar in word] + [BOX[0]] + [BOX[bar] for bar in word] + [BOX[0]]
            state, broken = 0, False
            for bar in row:
                broken = broken or (bar == BOX[1] and state == 23)
                state = (state + 1) % 24 if bar == BOX[0] else state
            many += not broken
        self.assert_answer(many, refrain_count, (zero, BOX, 10, zero, zero), book)
        chance = random.Random(133)
        box = plainboxes.some_marked_box(chance, 2, 9, 8)
        great = Book(*plainboxes.some_moving_book(chance, box, 24, 0.02))
        scores = [Score((("bar", bar),)) for bar in box[:3]]
        refrain = (scores[0], box, 16, scores[1], scores[2])
        many = refrain_count(refrain, great)
        self.assertGreater(many, 2)
        self.assert_answer(None, refrain_at, refrain, great, many)
        words = [refrain_at(refrain, great, index) for index in (0, 1, many // 2, many - 1)]
        self.assertEqual(words, sorted(words))
        for word in words:
            row = [bar for part in (0, word, 1, word, 2) for bar in ((part,) if part in (0, 1, 2) else part)]
            told = run(great, [column for bar in row for column in box[bar]], 0)
            self.assertFalse(any(is_broken for _, is_broken in told[len(box[0]):]))


if __name__ == "__main__":
    unittest.main()

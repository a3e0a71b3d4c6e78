"""Promises [H1], [H2] to [H4] and [H7] of words: counterheld.boxes; and BadBox from all functions of parts H and I."""

import random
import unittest

from counterheld import boxes, costs, gaps, machines, refrains
from counterheld.bartexts import read_bar
from counterheld.books import Book
from counterheld.boxes import BadBox, endless, lets_word, longest, word_at, word_count, word_index, word_score
from counterheld.broken import lets
from counterheld.moments import columns
from counterheld.scores import Score
from tests import plainbooks, plainboxes
from tests.checks import Case
from tests.plainpapers import deep

BOX = (read_bar("1/4!1 C4"), read_bar("1/4!2 D4"))
PLAIN = ((("accent", 2),), ((((0,), (), 1, False),), (((0,), (), 1, True), ((), (), 0, False))))
BOOK = Book(*PLAIN)
ALL = Book((), ((),))
NOTHING = Book((), ((((), (), 0, True),),))


def lists(thing):
    return [lists(part) for part in thing] if isinstance(thing, (list, tuple)) else thing


class WordScores(Case):
    def test_words(self):
        chance = random.Random(91)
        for voices in (1, 2, 3, 4):
            for bars in (1, 2, 12):
                for most in (1, 64):
                    box = plainboxes.some_box(chance, voices, bars, most)
                    for length in (1, 2, 3, 12, 47, 48):
                        word = tuple(chance.randrange(bars) for _ in range(length))
                        score = word_score(box, word)
                        self.assertIs(Score, score.__class__)
                        self.assertLessEqual(len(score.rules), 59)
                        wanted = tuple(plainboxes.columns_of(box, word))
                        self.assertEqual((voices, len(wanted)), (score.voices, score.count))
                        for first in range(0, len(wanted), 1000):
                            stop = min(first + 1000, len(wanted))
                            self.assert_same(wanted[first:stop], columns(score, first, stop))

    def test_all_bars_of_the_greatest_word(self):
        chance = random.Random(92)
        box = tuple((((1, 4), 1, (((k, 4), True),)),) for k in range(12))
        for word in (tuple(range(12)) * 4, (11,), (11,) * 48, list(range(12)) * 4, tuple(chance.randrange(12) for _ in range(48))):
            score = word_score(box, word)
            self.assertEqual(list(word), [column[2][0][0][0] for column in columns(score, 0, len(word))])
            self.assertLessEqual(len(score.rules), 59)
        self.assert_same(box[5], columns(word_score(lists(box), [5]), 0, 1))


class ShortWords(Case):
    """Every short word against its columns written out."""

    def check(self, box, plain, most):
        book = Book(*plain)
        for length in range(most + 1):
            wanted = plainboxes.let_words(box, plain, length)
            self.assert_answer(len(wanted), word_count, box, book, length)
            for index, word in enumerate(wanted):
                self.assert_same(word, word_at(box, book, length, index))
            for index in (-1, len(wanted), len(wanted) + 1, 10 ** 40):
                self.assert_answer(None, word_at, box, book, length, index)
            for word in plainboxes.words(len(box), length):
                index = wanted.index(word) if word in wanted else None
                self.assert_same(index is not None, lets_word(box, book, word))
                self.assert_same(index, word_index(box, book, list(word)))
                if word:
                    self.assertEqual(index is not None, lets(word_score(box, word), book))

    def test_of_chance(self):
        chance = random.Random(93)
        for _ in range(60):
            voices, bars = chance.randint(1, 4), chance.randint(1, 4)
            box = plainboxes.some_box(chance, voices, bars)
            self.check(box, plainbooks.some_book(chance, chance.randint(0, 8), chance.randint(1, 24), 5), 4 if bars < 4 else 3)

    def test_books_that_go_by_the_last_columns(self):
        chance = random.Random(98)
        for _ in range(60):
            box = plainboxes.some_marked_box(chance, chance.randint(1, 3), chance.randint(2, 3), 3)
            self.check(box, plainboxes.some_moving_book(chance, box, 3, 0.3), 4 if len(box) < 3 else 3)

    def test_twelve_bars(self):
        chance = random.Random(94)
        box = plainboxes.some_box(chance, 2, 12)
        self.check(box, plainbooks.some_book(chance, 8, 6, 5), 2)

    def test_lists_for_tuples(self):
        for length in range(4):
            self.assertEqual(word_count(BOX, BOOK, length), word_count(lists(BOX), BOOK, length))
        self.assert_answer(True, lets_word, lists(BOX), BOOK, [1, 0])

    def test_two_books_and_boxes_by_turns(self):
        other = (BOX[1], BOX[0])
        for _ in range(3):
            self.assert_answer(5, word_count, BOX, BOOK, 3)
            self.assert_answer(8, word_count, BOX, ALL, 3)
            self.assert_answer((0, 0, 1), word_at, BOX, BOOK, 3, 1)
            self.assert_answer((0, 1, 0), word_at, other, BOOK, 3, 0)
            self.assert_answer(0, word_count, BOX, NOTHING, 3)
            self.assert_answer(27, word_count, BOX + BOX[:1], ALL, 3)


class LongWords(Case):
    def test_fibonacci(self):
        one, other = 1, 1
        for length in range(1, 501):
            one, other = other, one + other
            if length < 40 or length > 495:
                self.assert_answer(other, word_count, BOX, BOOK, length)
        self.assert_answer((0,) * 500, word_at, BOX, BOOK, 500, 0)
        last = (1, 0) * 250
        self.assert_answer(last, word_at, BOX, BOOK, 500, other - 1)
        self.assert_answer(None, word_at, BOX, BOOK, 500, other)
        self.assert_answer(other - 1, word_index, BOX, BOOK, last)
        self.assert_answer(None, word_index, BOX, BOOK, last[:-2] + (1, 1))

    def test_great_boxes(self):
        chance = random.Random(95)
        box = plainboxes.some_box(chance, 4, 12, 64)
        for plain in (plainbooks.some_book(chance, 16, 24, 16, often=0.02), plainbooks.some_book(chance, 16, 24, 16, often=0.1)):
            book = Book(*plain)
            for length in (0, 1, 7, 60, 500):
                many = word_count(box, book, length)
                self.assert_answer(None, word_at, box, book, length, many)
                for index in {0, many // 2, many - 1, chance.randrange(max(1, many))}:
                    if 0 <= index < many:
                        word = word_at(box, book, length, index)
                        self.assertEqual(length, len(word))
                        self.assert_answer(index, word_index, box, book, word)
                        self.assert_answer(True, lets_word, box, book, word)
                        if 0 < length <= 7:
                            self.assertTrue(plainboxes.lets(box, plain, word))

    def test_all_words(self):
        box = (BOX[0],) * 12
        self.assert_answer(12 ** 500, word_count, box, ALL, 500)
        index = 7 ** 591
        word = word_at(box, ALL, 500, index)
        self.assertEqual(index, sum(number * 12 ** (499 - k) for k, number in enumerate(word)))
        self.assert_answer(index, word_index, box, ALL, word)
        self.assert_answer((11,) * 500, word_at, box, ALL, 500, 12 ** 500 - 1)

    def test_a_thousand_numbers(self):
        self.assert_answer(True, lets_word, BOX, BOOK, (1, 0) * 500)
        self.assert_answer(False, lets_word, BOX, BOOK, (1, 0) * 499 + (1, 1))
        self.assert_answer(False, lets_word, BOX, BOOK, (1, 1) + (0, 0) * 499)
        self.assert_answer(True, lets_word, BOX, ALL, [0] * 1000)

    def test_numbers_that_are_no_bars(self):
        for number in (2, 12, -1, 10 ** 40):
            for word in ((number,), (0, number), (number, 0), [0, 0, number]):
                self.assert_answer(False, lets_word, BOX, BOOK, word)
                self.assert_answer(False, lets_word, BOX, NOTHING, word)
                self.assert_answer(None, word_index, BOX, BOOK, word)
        self.assert_answer(True, lets_word, BOX, NOTHING, ())
        self.assert_answer(0, word_index, BOX, NOTHING, ())
        self.assert_answer(((), None), lambda: (word_at(BOX, NOTHING, 0, 0), word_at(BOX, NOTHING, 0, 1)))


class Ends(Case):
    """[H4]."""

    def plain_endless(self, box, plain, most):
        """The pair of words whose lengths are together at most so many, by trying all."""
        for total in range(2, most + 1):
            for length in range(1, total):
                for word in plainboxes.let_words(box, plain, total):
                    ahead, again = word[:length], word[length:]
                    told = plainbooks.run(plain, plainboxes.columns_of(box, word))
                    behind = plainbooks.run(plain, plainboxes.columns_of(box, ahead))[-1][0]
                    if ahead[-1] == again[-1] and told[-1][0] == behind:
                        return ahead, again
        return None

    def test_of_chance(self):
        chance = random.Random(96)
        met = set()
        for _ in range(250):
            bars = chance.randint(1, 3)
            box = plainboxes.some_marked_box(chance, chance.randint(1, 2), bars, 2)
            plain = plainboxes.some_moving_book(chance, box, chance.randint(2, 9), chance.choice((0.2, 0.5, 0.8)))
            book = Book(*plain)
            many = longest(box, book)
            told = endless(box, book)
            self.assertEqual(many is None, told is not None)
            wanted = self.plain_endless(box, plain, 5)
            if wanted is not None or told is None or sum(map(len, told)) <= 5:
                self.assert_answer(wanted, endless, box, book)
            if many is not None:
                self.assertGreater(word_count(box, book, many), 0)
                self.assertEqual(0, word_count(box, book, many + 1))
                met.add(many)
            else:
                met.add((len(told[0]), len(told[1])))
                self.check_again(box, book, *told)
        self.assertGreater(len(met), 6)

    def check_again(self, box, book, ahead, again):
        """The second word put in any number of times, up to 10 ** 12 columns by rules."""
        for many in (0, 1, 2, 5, 40):
            word = ahead + again * many
            if len(word) <= 1000:
                self.assert_answer(True, lets_word, box, book, word)
        if len(ahead) + len(again) <= 24:
            one, other = word_score(box, ahead).rules, word_score(box, again)
            moved = tuple(self.moved(rule, len(one)) for rule in other.rules)
            copies = (10 ** 12 - Score(one).count) // other.count
            rules = one + moved + (("times", len(one + moved) - 1, copies), ("then", len(one) - 1, len(one + moved)))
            self.assert_answer(True, lets, Score(rules), book)

    def moved(self, rule, by):
        return rule if rule[0] == "bar" else (rule[0], rule[1] + by, rule[2] + by)

    def chain_book(self, length, start=0, back=None):
        """A book with 24 states that lets bars one behind another, in the order of the box, and then breaks or goes back."""
        tests = tuple(("accent", a) for a in range(10))
        states = [(((), (), (state + 1) % 24, False),) for state in range(24)]
        states[length] = ((((), (), back, False),) if back is not None else (((), (), 0, True),))
        return Book(tests, states)

    def test_how_long(self):
        box = BOX[:1]
        for length in range(24):
            book = self.chain_book(length)
            self.assert_answer(length, longest, box, book)
            self.assert_answer(None, endless, box, book)
            self.assert_answer([1] * (length + 1) + [0], lambda: [word_count(box, book, n) for n in range(length + 2)])
        self.assert_answer(0, longest, BOX, NOTHING)
        self.assert_answer(None, longest, BOX, ALL)

    def test_ways_back(self):
        # From 23 back to another state: the word again is the round, the word ahead leads into it.
        for back in range(24):
            book = self.chain_book(23, back=back)
            self.assert_answer(((0,) * max(1, back), (0,) * (24 - back)), endless, BOX[:1], book)
            self.assert_answer(None, longest, BOX[:1], book)

    def test_the_order_of_pairs(self):
        # A short way ahead to a long round, and a long way ahead to a short one.
        tests = (("accent", 1), ("accent", 2))
        one, two = (0,), (1,)
        states = (
            ((one, (), 1, False), (two, (), 4, False)),
            ((one, (), 2, False), ((), (), 0, True)), ((one, (), 3, False), ((), (), 0, True)), ((one, (), 1, False), ((), (), 0, True)),
            ((two, (), 5, False), ((), (), 0, True)), ((two, (), 5, False), ((), (), 0, True)),
        )
        # Behind (0,) a round of three: four together; behind (1, 1) a round of one: three together.
        self.assert_answer(((1, 1), (1,)), endless, BOX, Book(tests, states))
        # At one sum the shorter ahead; then the first one.
        states = states[:4] + (((two, (), 5, False), ((), (), 0, True)), ((two, (), 6, False), ((), (), 0, True)), ((two, (), 6, False), ((), (), 0, True)))
        self.assert_answer(((0,), (0, 0, 0)), endless, BOX, Book(tests, states))
        states = (((one, (), 0, True), (two, (), 0, False)),)
        self.assert_answer(((1,), (1,)), endless, BOX, Book(tests, states))
        # At one length of the word ahead first a round of two, then a round of one.
        both = ((), (), 1, False), ((), (), 2, False)
        states = ((both[0],), (both[1],), ((one, (), 3, False), (two, (), 5, False)))
        states += (((one, (), 4, False), ((), (), 0, True)), ((one, (), 3, False), ((), (), 0, True)), ((two, (), 5, False), ((), (), 0, True)))
        self.assert_answer(((0, 0, 1), (1,)), endless, BOX, Book(tests, states))
        # A round of two through both bars, which can be gone into at either one.
        states = (((one, (), 1, False), (two, (), 2, False)), ((one, (), 0, True), (two, (), 2, False)), ((one, (), 1, False), (two, (), 0, True)))
        self.assert_answer(((0,), (1, 0)), endless, BOX, Book(tests, states))

    def test_great_boxes(self):
        chance = random.Random(97)
        for _ in range(6):
            box = plainboxes.some_box(chance, 2, 12, 4)
            plain = plainbooks.some_book(chance, 16, 24, 16, often=0.3)
            book = Book(*plain)
            told = endless(box, book)
            self.assertEqual(longest(box, book) is None, told is not None)
            if told is not None:
                self.check_again(box, book, *told)


class Wrong(Case):
    def calls(self, box):
        """Every function of parts H and I with a box, and other arguments that are wrong, too."""
        one = Score((("bar", plainboxes.BAR),))
        other = Score((("bar", plainboxes.TWO_VOICES),))
        gap, refrain = (one, box, None, other), [one, box, True, other, one]
        told = [(boxes.word_score, (box, ())), (boxes.lets_word, (box, BOOK, (0,))), (boxes.word_count, (box, BOOK, 3))]
        told += [(boxes.word_at, (box, BOOK, 3, -1)), (boxes.word_index, (box, BOOK, (7,))), (boxes.longest, (box, BOOK)), (boxes.endless, (box, BOOK))]
        told += [(machines.parting_word, (box, BOOK, ALL)), (machines.keeping_paper, (box, BOOK, ALL)), (machines.is_keeping, (box, BOOK, ALL, None))]
        told += [(machines.machine, (box, BOOK)), (machines.apart_count, (box, BOOK, ALL, 3)), (machines.apart_at, (box, BOOK, ALL, 3, 0))]
        told += [(gaps.filling_count, (gap, BOOK)), (gaps.filling_at, (gap, BOOK, 0)), (gaps.filling_index, (gap, BOOK, None))]
        told += [(gaps.blocked, (gap, BOOK)), (gaps.is_blocked_by, (gap, BOOK, None))]
        told += [(costs.cheapest, (gap, BOOK, None)), (costs.filling_by_cost, (gap, BOOK, None, 0)), (costs.potentials, (gap, BOOK, None))]
        told += [(costs.shows_least, (gap, BOOK, None, None, None))]
        return told + [(refrains.refrain_count, (refrain, BOOK)), (refrains.refrain_at, (refrain, BOOK, 0))]

    def test_what_is_no_box(self):
        for box, number in plainboxes.NO_BOXES + [(deep(44), 0)]:
            for function, arguments in self.calls(box):
                self.assert_raises(BadBox, {"number": number}, function, *arguments)

    def test_boxes_that_are_right(self):
        for box in ((plainboxes.BAR,), [plainboxes.BAR] * 12, ((plainboxes.COLUMN,) * 64,) * 12, (BOX[0] * 3, BOX[1] * 64)):
            self.assert_answer(len(box) ** 2, word_count, box, ALL, 2)
        for voices in range(1, 5):
            column = ((1, 1), 0, (None,) * voices)
            self.assert_answer(4, word_count, ((column,), (column, column)), ALL, 2)

    def test_the_error(self):
        self.assert_error_class(BadBox)


class Example(Case):
    """[H7]."""

    def test_of_the_document(self):
        self.assert_answer([1, 2, 3, 5, 8], lambda: [word_count(BOX, BOOK, length) for length in range(5)])
        self.assert_answer((1, 0, 1), word_at, BOX, BOOK, 3, 4)
        self.assert_answer(((0,), (0,)), endless, BOX, BOOK)
        self.assert_answer(None, longest, BOX, BOOK)


if __name__ == "__main__":
    unittest.main()

"""Promises [H2], [H3], [H5], [H6] and [H7]: counterheld.machines."""

import random
import unittest

from counterheld.bartexts import read_bar
from counterheld.books import Book
from counterheld.boxes import lets_word, word_at, word_count
from counterheld.machines import apart_at, apart_count, is_keeping, keeping_paper, machine, parting_word
from tests import plainbooks, plainboxes
from tests.checks import Case
from tests.plainpapers import changed_within, deep

BOX = (read_bar("1/4!1 C4"), read_bar("1/4!2 D4"))
PLAIN = ((("accent", 2),), ((((0,), (), 1, False),), (((0,), (), 1, True), ((), (), 0, False))))
BOOK = Book(*PLAIN)
ALL = Book((), ((),))
NOTHING = Book((), ((((), (), 0, True),),))
ANYTHING = (None, True, False, 0, 1, -1, 10 ** 40, "", "abc", [], {}, {0: 1}, [()], (None,), (0,), ((),), ((0, 0),), (((0, 0, 0),),), deep(44), (deep(43),))


def looser(chance, plain):
    """The book with some of what is broken no longer broken."""
    tests, states = plain
    return tests, tuple(tuple(row[:3] + (row[3] and chance.random() < 0.3,) for row in state) for state in states)


def changed(chance, plain):
    """The book with one thing changed."""
    tests, states = plain
    state = chance.randrange(len(states))
    if not states[state]:
        return plain
    at = chance.randrange(len(states[state]))
    wanted, unwanted, following, broken = states[state][at]
    row = chance.choice(((wanted, unwanted, following, not broken), (unwanted, wanted, following, broken), ((), (), following, True)))
    return tests, states[:state] + (states[state][:at] + (row,) + states[state][at + 1:],) + states[state + 1:]


def in_another_order(chance, plain):
    """A book that says the same: its states in another order but for the first one, and one of them twice if there is room."""
    tests, states = plain
    order = [0] + chance.sample(range(1, len(states)), len(states) - 1)
    place = {old: new for new, old in enumerate(order)}
    told = [tuple(row[:2] + (place[row[2]], row[3]) for row in states[old]) for old in order]
    if len(told) < 24:
        again = chance.randrange(len(told))
        told.append(told[again])
        told = [tuple(row[:2] + (len(told) - 1, row[3]) if row[2] == again and chance.random() < 0.5 else row for row in state) for state in told]
    return tests, tuple(told)


def pairs(chance, many):
    """Boxes with two books each, the second one often like the first one."""
    for _ in range(many):
        bars = chance.randint(1, 3)
        box = plainboxes.some_marked_box(chance, chance.randint(1, 3), bars, 2)
        one = plainboxes.some_moving_book(chance, box, chance.randint(1, 8), chance.choice((0.2, 0.5)))
        way = chance.randrange(6)
        if way == 0:
            other = plainbooks.some_book(chance, 5, 3, 4, often=0.3)
        else:
            other = (lambda: one, lambda: looser(chance, one), lambda: looser(chance, one), lambda: changed(chance, one), lambda: in_another_order(chance, one))[way - 1]()
        if chance.random() < 0.5:
            one, other = other, one
        yield box, one, other


class Keeping(Case):
    """[H2] and [H3]."""

    def test_of_chance(self):
        chance = random.Random(101)
        kept = parted = 0
        for box, one, other in pairs(chance, 300):
            books = Book(*one), Book(*other)
            wanted = None
            for length in range(5):
                apart = [word for word in plainboxes.let_words(box, one, length) if not plainboxes.lets(box, other, word)]
                wanted = wanted or (apart[0] if apart else None)
            told = parting_word(box, *books)
            if wanted is not None or told is None or len(told) < 5:
                self.assert_answer(wanted, parting_word, box, *books)
            paper = keeping_paper(box, *books)
            self.assertEqual(told is None, paper is not None)
            if told is not None:
                parted += 1
                self.assertLessEqual(len(told), 12 * 24 * 24 + 1)
                self.assertTrue(lets_word(box, books[0], told))
                self.assertFalse(lets_word(box, books[1], told))
                self.assertTrue(lets_word(box, books[1], told[:-1]))
                for thing in ((), ((0, 0, 0),), self.all_triples(box, one, other)):
                    self.assert_answer(False, is_keeping, box, books[0], books[1], thing)
            else:
                kept += 1
                self.check_paper(chance, box, one, other, paper)
        self.assertGreater(min(kept, parted), 40)

    def all_triples(self, box, one, other):
        return tuple((bar, s, t) for bar in range(len(box)) for s in range(len(one[1])) for t in range(len(other[1])))

    def reached(self, box, one, other):
        """The triples to which words lead."""
        todo, met = [(None, 0, 0)], set()
        while todo:
            bar, state, beside = todo.pop()
            for following in range(len(box)):
                behind = plainboxes.goes_on(box, one, (bar, state), following)
                if behind is not None:
                    triple = (following, behind, plainboxes.goes_on(box, other, (bar, beside), following))
                    if triple not in met:
                        met.add(triple)
                        todo.append(triple)
        return tuple(sorted(met))

    def check_paper(self, chance, box, one, other, paper):
        books = Book(*one), Book(*other)
        self.assert_same(self.reached(box, one, other), paper)
        self.assert_answer(True, is_keeping, box, books[0], books[1], paper)
        shuffled = tuple(chance.sample(paper, len(paper)))
        self.assert_answer(True, is_keeping, box, books[0], books[1], shuffled)
        self.assert_answer(False, is_keeping, box, books[0], books[1], list(paper))
        if not paper:
            return
        self.assert_answer(False, is_keeping, box, books[0], books[1], paper + paper[:1])
        for k, (bar, state, beside) in enumerate(paper):
            self.assert_answer(False, is_keeping, box, books[0], books[1], paper[:k] + paper[k + 1:])
            for wrong in ([bar, state, beside], (bar, state), (bar, state, beside, 0), None, (bar, state, None), (str(bar), state, beside), (True, state, beside), (bar, False, beside), (bar, state, True)):
                self.assert_answer(False, is_keeping, box, books[0], books[1], paper[:k] + (wrong,) + paper[k + 1:])
                self.assert_answer(False, is_keeping, box, books[0], books[1], paper + (wrong,))
        for wrong in ((len(box), 0, 0), (-1, 0, 0), (0, len(one[1]), 0), (0, -1, 0), (0, 0, len(other[1])), (0, 0, -1), (0, 0, 10 ** 40)):
            self.assert_answer(False, is_keeping, box, books[0], books[1], paper + (wrong,))
        for _ in range(12):
            thing = changed_within(chance, shuffled)
            self.assertEqual(plainboxes.is_keeping(box, one, other, thing), is_keeping(box, *books, thing), thing)
        # More triples, with all that follows from them or not.
        every = self.all_triples(box, one, other)
        for _ in range(12):
            more = paper + tuple(triple for triple in chance.sample(every, chance.randint(0, min(6, len(every)))) if triple not in paper)
            self.assertEqual(plainboxes.is_keeping(box, one, other, more), is_keeping(box, *books, more), more)

    def test_more_triples_and_all_that_follows(self):
        chance = random.Random(102)
        met = set()
        for box, one, other in pairs(chance, 150):
            books = Book(*one), Book(*other)
            paper = keeping_paper(box, *books)
            if paper is None:
                continue
            todo, more = [chance.choice(self.all_triples(box, one, other))], list(paper)
            while todo:
                bar, state, beside = todo.pop()
                if (bar, state, beside) in more:
                    continue
                more.append((bar, state, beside))
                for following in range(len(box)):
                    behind = plainboxes.goes_on(box, one, (bar, state), following)
                    if behind is not None:
                        todo.append((following, behind, plainboxes.goes_on(box, other, (bar, beside), following) or 0))
            wanted = plainboxes.is_keeping(box, one, other, tuple(more))
            met.add((wanted, len(more) > len(paper)))
            self.assert_answer(wanted, is_keeping, box, *books, tuple(more))
        self.assertIn((True, True), met)
        self.assertIn((False, True), met)

    def test_a_book_and_itself(self):
        chance = random.Random(103)
        box = plainboxes.some_box(chance, 3, 12, 6)
        book = Book(*plainbooks.some_book(chance, 16, 24, 16, often=0.1))
        self.assert_answer(None, parting_word, box, book, book)
        paper = keeping_paper(box, book, book)
        self.assertTrue(all(state == beside for _, state, beside in paper))
        self.assert_answer(True, is_keeping, box, book, book, paper)
        every = tuple((bar, state, state) for bar in range(12) for state in range(24))
        self.assert_answer(True, is_keeping, box, book, book, every)
        self.assert_answer(True, is_keeping, box, book, book, every[::-1])

    def test_anything(self):
        for thing in ANYTHING:
            self.assert_answer(False, is_keeping, BOX, BOOK, ALL, thing)
            self.assert_answer(thing == () and isinstance(thing, tuple), is_keeping, BOX, NOTHING, BOOK, thing)
        self.assert_answer(True, is_keeping, BOX, NOTHING, BOOK, ())
        self.assert_answer((), keeping_paper, BOX, NOTHING, BOOK)

    def test_long_parting_words(self):
        """Books of 24 and of 23 states that go round, and part only when both are at a certain state."""
        box = BOX[:1]
        one = Book((), tuple((((), (), (s + 1) % 24, False),) for s in range(24)))
        other = Book((), tuple((((), (), (s + 1) % 23, False),) for s in range(22)) + ((((), (), 0, True),),))
        self.assert_answer((0,) * 23, parting_word, box, one, other)
        self.assert_answer(None, parting_word, box, other, one)
        self.assert_answer(tuple((0, s, s) for s in range(1, 23)), keeping_paper, box, other, one)

    def test_many_pairs_of_states(self):
        # The state of the one counts the first bars modulo 24, that of the other one modulo 23, in each of twelve bars.
        box = tuple((((1, 4), k % 10, (((k, 4), True),)),) for k in range(12))
        one = Book((), tuple((((), (), (s + 1) % 24, False),) for s in range(24)))
        other = Book((), tuple((((), (), (s + 1) % 23, False),) for s in range(23)))
        paper = keeping_paper(box, one, other)
        self.assertEqual(12 * 24 * 23, len(paper))
        self.assert_answer(True, is_keeping, box, one, other, paper)
        self.assert_answer(False, is_keeping, box, one, other, paper[:-1])
        self.assert_answer(None, parting_word, box, one, other)


class Machines(Case):
    """[H5]."""

    def takes(self, told, word):
        node = 0
        for bar in word:
            node = told[node][bar]
            if node is None:
                return False
        return True

    def check(self, box, plain, most):
        told = machine(box, Book(*plain))
        self.assertIs(tuple, told.__class__)
        for length in range(most + 1):
            for word in plainboxes.words(len(box), length):
                self.assertEqual(plainboxes.lets(box, plain, word), self.takes(told, word))
        # Numbered in the order of the first words: from node to node new numbers come ascending.
        numbers = [0]
        for row in told:
            self.assertEqual((tuple, len(box)), (row.__class__, len(row)))
            for node in row:
                if node is not None and node not in numbers:
                    numbers.append(node)
        self.assertEqual(list(range(len(told))), numbers)
        # No two nodes take the same words.
        kinds = [0] * len(told)
        for _ in told:
            rows = [tuple(None if node is None else kinds[node] for node in row) for row in told]
            kinds = [sorted(set(map(repr, rows))).index(repr(row)) for row in rows]
        self.assertEqual(len(told), len(set(kinds)))
        return told

    def test_of_chance(self):
        chance = random.Random(104)
        sizes = set()
        for box, one, _ in pairs(chance, 120):
            sizes.add(len(self.check(box, one, 4)))
        self.assertGreater(len(sizes), 5)

    def test_equal_just_if_no_word_parts(self):
        chance = random.Random(105)
        met = {True: 0, False: 0}
        for box, one, other in pairs(chance, 200):
            books = Book(*one), Book(*other)
            alike = parting_word(box, *books) is None and parting_word(box, *books[::-1]) is None
            self.assertEqual(alike, machine(box, books[0]) == machine(box, books[1]))
            met[alike] += 1
        self.assertGreater(min(met.values()), 40)

    def test_books_that_say_the_same(self):
        chance = random.Random(106)
        for _ in range(40):
            box = plainboxes.some_box(chance, 2, chance.choice((2, 12)), 3)
            plain = plainbooks.some_book(chance, 8, chance.choice((3, 23)), 6, often=0.3)
            told = machine(box, Book(*plain))
            self.assert_answer(told, machine, box, Book(*in_another_order(chance, plain)))

    def test_the_most_nodes(self):
        box = tuple((((1, 4), k % 10, (((k, 4), True),)),) for k in range(12))
        # Which bars may follow hangs on the last bar and on the state, so that no two places are alike.
        tests = tuple(("by", 0, tuple((step, 0) for step in range(1 + low, 13, 2))) for low in range(2)) + tuple(("accent", a) for a in range(10))
        states = tuple((((2 + s % 10,), (s // 10 % 2,), s, True), ((), (), (s + 1) % 24, False)) for s in range(24))
        told = machine(box, Book(tests, states))
        self.assertLessEqual(len(told), 12 * 24 + 1)
        self.assertGreater(len(told), 30)
        self.check(box, (tests, states), 2)

    def test_few_nodes(self):
        self.assert_answer(((None, None),), machine, BOX, NOTHING)
        self.assert_answer(((0, 0),), machine, BOX, ALL)
        self.assert_answer(((0,) * 12,), machine, (BOX[0],) * 12, ALL)
        chain = Book((), tuple((((), (), s + 1, False),) for s in range(23)) + ((((), (), 0, True),),))
        self.assert_answer(tuple((s + 1,) for s in range(23)) + ((None,),), machine, BOX[:1], chain)


class Apart(Case):
    """[H6]."""

    def test_of_chance(self):
        chance = random.Random(107)
        for box, one, other in pairs(chance, 120):
            books = Book(*one), Book(*other)
            for length in range(5):
                wanted = [word for word in plainboxes.let_words(box, one, length) if not plainboxes.lets(box, other, word)]
                self.assert_answer(len(wanted), apart_count, box, *books, length)
                for index, word in enumerate(wanted):
                    self.assert_same(word, apart_at(box, *books, length, index))
                for index in (-1, len(wanted), len(wanted) + 1, 10 ** 40):
                    self.assert_answer(None, apart_at, box, *books, length, index)

    def test_long_words(self):
        chance = random.Random(108)
        box = plainboxes.some_box(chance, 3, 12, 8)
        one, other = Book(*plainbooks.some_book(chance, 16, 24, 16, often=0.03)), Book(*plainbooks.some_book(chance, 16, 24, 16, often=0.1))
        for books in ((one, other), (other, one), (one, ALL), (ALL, other)):
            for length in (0, 1, 20, 60):
                many = apart_count(box, *books, length)
                self.assert_answer(None, apart_at, box, *books, length, many)
                if many:
                    first, last = apart_at(box, *books, length, 0), apart_at(box, *books, length, many - 1)
                    self.assertLessEqual(first, last)
                    for word in (first, last, apart_at(box, *books, length, many // 2)):
                        self.assertEqual((length, True, False), (len(word), lets_word(box, books[0], word), lets_word(box, books[1], word)))
            # Of the words that one lets, other lets those that are not apart.
            self.assertEqual(word_count(box, books[0], 60) - apart_count(box, *books, 60), word_count(box, books[1], 60) - apart_count(box, *books[::-1], 60))

    def test_counts(self):
        fibonacci = [word_count(BOX, BOOK, length) for length in range(61)]
        for length in range(61):
            self.assert_answer(2 ** length - fibonacci[length], apart_count, BOX, ALL, BOOK, length)
            self.assert_answer(0, apart_count, BOX, BOOK, ALL, length)
            self.assert_answer(fibonacci[length] if length else 0, apart_count, BOX, BOOK, NOTHING, length)
        self.assert_answer((0,) * 58 + (1, 1), apart_at, BOX, ALL, BOOK, 60, 0)
        self.assert_answer((1,) * 60, apart_at, BOX, ALL, BOOK, 60, 2 ** 60 - fibonacci[60] - 1)
        self.assert_answer(None, apart_at, BOX, ALL, BOOK, 60, 2 ** 60 - fibonacci[60])
        self.assert_answer(word_at(BOX, BOOK, 60, 12345), apart_at, BOX, BOOK, NOTHING, 60, 12345)


class Example(Case):
    """[H7]."""

    def test_of_the_document(self):
        self.assert_answer(((0, 1), (0, None)), machine, BOX, BOOK)
        self.assert_answer((1, 1), parting_word, BOX, ALL, BOOK)
        self.assert_answer(None, keeping_paper, BOX, ALL, BOOK)
        self.assert_answer(None, parting_word, BOX, BOOK, ALL)
        self.assert_answer(((0, 0, 0), (1, 1, 0)), keeping_paper, BOX, BOOK, ALL)


if __name__ == "__main__":
    unittest.main()

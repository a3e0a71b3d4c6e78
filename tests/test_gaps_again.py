"""Gaps that are asked about again ([I3], [I6], [0.3]): what is kept of them serves the next question, and does not show."""

import random
import time
import unittest

from counterheld.books import Book
from counterheld.costs import cheapest, filling_by_cost, potentials, shows_least
from counterheld.gaps import BadGap, blocked, filling_at, filling_count, filling_index, is_blocked_by
from counterheld.scores import Score
from tests.checks import Case
from tests.test_gaps import some_gap

BOX = tuple((((1, 4), b % 10, (((b % 7 - 3, 4), True),)),) for b in range(12))
ONE = Score((("bar", BOX[0]),))
TESTS = tuple(("accent", a) for a in range(10))
STATES = tuple(tuple(((a,), (), (s * 5 + a * 7 + 1) % 24, False) for a in range(10)) for s in range(24))
COSTS = tuple(range(1, 13))


def as_lists(thing):
    return [as_lists(part) for part in thing] if isinstance(thing, (list, tuple)) else thing


def again(chance, gap):
    """An equal gap of other objects, lists perhaps in the place of tuples."""
    ahead, box, number, behind = gap
    told = (Score(ahead.rules), as_lists(box) if chance.random() < 0.5 else box, number, Score(as_lists(behind.rules)))
    return list(told) if chance.random() < 0.5 else told


class Again(Case):
    def told(self, gap, book, costs):
        """The answers to all kinds of questions."""
        many = filling_count(gap, book)
        row = [filling_at(gap, book, index) for index in (0, many // 2, many - 1, many, -1)]
        places = [filling_index(gap, book, word) for word in row if word is not None]
        by_cost = [filling_by_cost(gap, book, costs, index) for index in (3, 0, 1, 1000, 2)]
        paper, lows = blocked(gap, book), potentials(gap, book, costs)
        shown = (is_blocked_by(gap, book, paper), lows is not None and shows_least(gap, book, costs, lows, cheapest(gap, book, costs)[0]))
        return repr((many, row, places, by_cost, paper, lows, cheapest(gap, book, costs), shown))

    def test_other_objects_and_books_by_turns(self):
        chance = random.Random(371)
        gaps = []
        for _ in range(60):
            _, gap, book = some_gap(chance, 4)
            states = book.states[1:] + book.states[:1]
            # The same states, but another one first.
            turned = [tuple(row[:2] + ((row[2] - 1) % len(states),) + row[3:] for row in state) for state in states]
            gaps.append((gap, (book, Book(book.tests, turned))))
        asked = []
        for gap, books in gaps:
            costs = tuple(chance.randrange(4) for _ in gap[1])
            others = tuple(chance.randrange(4) for _ in gap[1])
            for told in (costs, others):
                asked += [(gap, book, told, self.told(gap, Book(book.tests, book.states), told)) for book in books]
        for _ in range(3):
            for gap, book, costs, wanted in asked:
                self.assertEqual(wanted, self.told(again(chance, gap), book, chance.choice((costs, list(costs)))))
        chance.shuffle(asked)
        for gap, book, costs, wanted in asked:
            self.assertEqual(wanted, self.told(again(chance, gap), book, costs))

    def test_gaps_that_are_nearly_equal(self):
        """One thing changed at a time, and asked about with one book."""
        book = Book(TESTS, STATES[:23] + ((((0,), (), 3, True), ((3,), (), 2, False)),))
        gaps = [(ONE, BOX[:4], 3, ONE)]
        gaps += [(Score((("bar", BOX[k]),)), BOX[:4], 3, ONE) for k in (1, 3, 8)]
        gaps += [(ONE, BOX[:4], 3, Score((("bar", BOX[k]),))) for k in (1, 3, 8)]
        gaps += [(ONE, BOX[:4], number, ONE) for number in (0, 1, 4)]
        gaps += [(ONE, BOX[k:k + 4], 3, ONE) for k in (1, 2, 5)] + [(ONE, BOX[:3], 3, ONE), (ONE, BOX[3::-1], 3, ONE)]
        wanted = [self.told(gap, Book(book.tests, book.states), COSTS[:len(gap[1])]) for gap in gaps]
        for _ in range(3):
            for gap, told in zip(gaps, wanted):
                self.assertEqual(told, self.told(gap, book, COSTS[:len(gap[1])]))

    def test_what_was_handed_in_is_changed(self):
        book = Book(TESTS, STATES)
        box, costs = as_lists(BOX[:3]), [1, 2, 3]
        gap = [ONE, box, 2, ONE]
        self.assert_answer(9, filling_count, gap, book)
        self.assert_answer((2, (0, 0)), filling_by_cost, gap, book, costs, 0)
        costs[0] = 7
        self.assert_answer((4, (1, 1)), filling_by_cost, gap, book, costs, 0)
        box.append(as_lists(BOX[5]))
        self.assert_answer(16, filling_count, gap, book)
        self.assert_raises(BadGap, {"reason": "costs"}, filling_by_cost, gap, book, costs, 0)
        gap[2] = 3
        self.assert_answer(64, filling_count, gap, book)
        gap[2] = True
        self.assert_raises(BadGap, {"reason": "number"}, filling_count, gap, book)
        box[0][0][1] = True
        self.assertRaises(ValueError, filling_count, gap, book)
        self.assert_answer(9, filling_count, (ONE, BOX[:3], 2, ONE), book)
        self.assert_answer((2, (0, 0)), filling_by_cost, (ONE, BOX[:3], 2, ONE), book, (1, 2, 3), 0)

    def test_many_costs_in_turn(self):
        gap, book = (ONE, BOX, 400, ONE), Book(TESTS, STATES)
        for _ in range(2):
            for costs, told in ((COSTS, 400), (COSTS[::-1], 400), ((5,) * 12, 2000), ((0,) * 12, 0), ((0,) * 11 + (10 ** 9,), 0)):
                bar = costs.index(min(costs))
                self.assert_answer((told, (bar,) * 400), cheapest, gap, book, costs)
                for index in (1000, 0, 1, 999):
                    cost, word = filling_by_cost(gap, book, costs, index)
                    self.assertEqual(cost, sum(costs[number] for number in word))

    def test_it_does_not_take_long(self):
        """Thousands of questions about the gap of 400 bars, by two books in turn; each had taken some hundredths of a second."""
        begun = time.process_time()
        books = [Book(TESTS, STATES), Book(TESTS, STATES[1:] + STATES[:1])]
        scores = [Score((("bar", BOX[k]),)) for k in range(12)]
        many = 12 ** 400
        for number in range(60):
            gap = (scores[number % 12], BOX, 400, scores[number // 12])
            for index in (0, 1, 5, 10 ** 100, 10 ** 400):
                for book in books:
                    word = filling_at(gap, book, index)
                    self.assertEqual(index, filling_index(gap, book, word))
                    self.assertEqual(many, filling_count(gap, book))
            for index in (0, 1, 1000):
                for book in books:
                    self.assertEqual(400 + (index > 0) + (index > 400), filling_by_cost(gap, book, COSTS, index)[0])
        self.assertLess(time.process_time() - begun, 60)


if __name__ == "__main__":
    unittest.main()

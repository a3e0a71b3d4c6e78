"""Promises [I2], [I5], [I6] and [I8]: counterheld.costs."""

import random
import unittest

from counterheld.books import Book
from counterheld.costs import cheapest, filling_by_cost, potentials, shows_least
from counterheld.gaps import filling_count, filling_index
from counterheld.scores import Score
from tests import plainboxes, plainly
from tests.checks import Case
from tests.plainpapers import changed_within, deep
from tests.test_gaps import ALL, ANYTHING, BOOK, BOX, NOTHING, ONE, some_gap


def some_costs(chance, bars):
    """Costs, often some of which are alike."""
    return tuple(chance.choice(((0, 1, 2), (5, 5, 7), (0, 10 ** 9, 123456789))[chance.randrange(3)]) for _ in range(bars))


class ByCost(Case):
    """[I2] and [I6]: each short filling against the whole score written out."""

    def ranked(self, plain, costs):
        return sorted((sum(costs[bar] for bar in word), word) for word in plain.fillings())

    def test_of_chance(self):
        chance = random.Random(121)
        met = 0
        for _ in range(150):
            plain, gap, book = some_gap(chance, 4)
            costs = some_costs(chance, len(plain.box))
            wanted = self.ranked(plain, costs)
            self.assert_answer(wanted[0] if wanted else None, cheapest, gap, book, costs)
            for index, told in enumerate(wanted):
                self.assert_same(told, filling_by_cost(gap, book, list(costs), index))
            for index in (len(wanted), len(wanted) + 1, 1000, -1):
                if not 0 <= index < len(wanted):
                    self.assert_answer(None, filling_by_cost, gap, book, costs, index)
            met += len(wanted) > 3
        self.assertGreater(met, 15)

    def test_all_words_of_some_bars(self):
        for bars, number in ((2, 9), (3, 6), (12, 3)):
            box = (BOX[0],) * bars
            for costs in ((1,) * bars, tuple(range(bars)), (0,) + (10 ** 9,) * (bars - 1), tuple(2 ** (k % 5) for k in range(bars))):
                wanted = sorted((sum(costs[bar] for bar in word), word) for word in plainboxes.words(bars, number))
                for index in list(range(0, 1001, 37)) + [998, 999, 1000]:
                    told = wanted[index] if index < len(wanted) else None
                    self.assert_answer(told, filling_by_cost, (ONE, box, number, ONE), ALL, costs, index)

    def test_many_fillings_of_one_cost(self):
        gap = (ONE, BOX, 400, ONE)
        for index in (0, 1, 2, 3, 500, 1000):
            cost, word = filling_by_cost(gap, ALL, (7, 7), index)
            self.assertEqual((2800, index), (cost, filling_index(gap, ALL, word)))
        for index in (0, 1, 400, 401, 1000):
            cost, word = filling_by_cost(gap, ALL, (0, 10 ** 9), index)
            # None of the dearer bars, then one at each of 400 places from the last one on, then two of them.
            self.assertEqual(0 if index == 0 else 1 if index <= 400 else 2, sum(word))
            self.assertEqual(sum(word) * 10 ** 9, cost)
        self.assert_answer((10 ** 9, (0,) * 399 + (1,)), filling_by_cost, gap, ALL, (0, 10 ** 9), 1)
        self.assert_answer((10 ** 9, (1,) + (0,) * 399), filling_by_cost, gap, ALL, (0, 10 ** 9), 400)
        self.assert_answer((2 * 10 ** 9, (0,) * 398 + (1, 1)), filling_by_cost, gap, ALL, (0, 10 ** 9), 401)

    def test_great_gaps(self):
        chance = random.Random(122)
        for _ in range(3):
            box = plainboxes.some_marked_box(chance, 2, 9, 8)
            book = Book(*plainboxes.some_moving_book(chance, box, 24, 0.1))
            ahead, behind = [Score((("bar", plainly.some_bar(chance, 2, 8)), ("times", 0, 10 ** 11))) for _ in range(2)]
            behind = Score((("bar", plainly.some_bar(chance, 2, 2)),))
            gap = (ahead, box, 400, behind)
            costs = tuple(chance.randrange(10 ** 9) for _ in range(9))
            many = filling_count(gap, book)
            told = [filling_by_cost(gap, book, costs, index) for index in (0, 1, 2, 500, 1000)]
            if many == 0:
                self.assertEqual([None] * 5, told)
                continue
            self.assertEqual(told, sorted(told))
            self.assertEqual(5, len(set(told)))
            for cost, word in told:
                self.assertEqual(cost, sum(costs[bar] for bar in word))
                self.assertIsNotNone(filling_index(gap, book, word))
            self.assert_answer(told[0], cheapest, gap, book, costs)
            paper = potentials(gap, book, costs)
            self.assert_answer(True, shows_least, gap, book, costs, paper, told[0][0])
            self.assert_answer(False, shows_least, gap, book, costs, paper, told[0][0] + 1)

    def test_nothing(self):
        for number in (0, 1, 400):
            gap = (ONE, BOX, number, ONE)
            self.assert_answer(None, cheapest, gap, NOTHING, (1, 5))
            self.assert_answer(None, filling_by_cost, gap, NOTHING, (1, 5), 0)
            self.assert_answer(None, potentials, gap, NOTHING, (1, 5))
            self.assert_answer((0, ()) if number == 0 else (number, (0,) * number), cheapest, gap, ALL, (1, 5))
        self.assert_answer(None, filling_by_cost, (ONE, BOX, 0, ONE), ALL, (1, 5), 1)


class Potentials(Case):
    """[I5]."""

    def test_of_chance(self):
        chance = random.Random(123)
        met = 0
        for _ in range(200):
            plain, gap, book = some_gap(chance, 4)
            costs = some_costs(chance, len(plain.box))
            levels = plain.levels(costs)
            fitting = [low for place, low in levels[-1].items() if plain.fits(place)]
            if not fitting:
                self.assert_answer(None, potentials, gap, book, costs)
                # Any number is shown where nothing fits.
                told = tuple(tuple(level.items()) for level in levels)
                self.assert_answer(True, shows_least, gap, book, costs, told, 10 ** 40)
                continue
            told = potentials(gap, book, costs)
            self.assert_same(tuple(tuple(sorted(level.items())) for level in levels), told)
            least = cheapest(gap, book, costs)[0]
            self.assertEqual(min(fitting), least)
            self.check(chance, plain, gap, book, costs, told, least)
            met += 1
        self.assertGreater(met, 60)

    def check(self, chance, plain, gap, book, costs, told, least):
        def agree(thing, cost):
            self.assertEqual(plain.shows_least(costs, thing, cost), shows_least(gap, book, costs, thing, cost), (thing, cost))

        for cost in (least, least - 1, 0, -5, -10 ** 40):
            self.assert_answer(True, shows_least, gap, book, costs, told, cost)
            self.assert_answer(True, shows_least, gap, book, list(costs), tuple(level[::-1] for level in told), cost)
        for cost in (least + 1, 10 ** 40, None, True, False, str(least), "", (), (least,), [least], {}, deep(44)):
            self.assert_answer(False, shows_least, gap, book, costs, told, cost)
        for wrong in (list(told), tuple(list(level) for level in told), told + ((),), told[:-1], told[1:], ((),) + told[1:], tuple(tuple(map(list, level)) for level in told)):
            self.assert_answer(False, shows_least, gap, book, costs, wrong, least)
        every = [(bar, state) for bar in range(len(plain.box)) for state in range(len(plain.book[1]))]
        for k, level in enumerate(told):
            for m, (place, p) in enumerate(level):
                others = [((place, p + by),) for by in (1, -1, 10 ** 9)] + [(), ((place, True),), ((place, None),), ((list(place), p),), ((place, p, 0),), (place,), ((place, p), (place, p))]
                others += [((place, False),)] * (p == 0) + [(((place[0], True), p),)] + [(((True, place[1]), p),)]
                for other in others:
                    changed = told[:k] + (level[:m] + other + level[m + 1:],) + told[k + 1:]
                    for cost in (least, least - 1):
                        agree(changed, cost)
            for place in chance.sample(every, min(3, len(every))) + [(None, 0), (len(plain.box), 0), (0, len(plain.book[1])), (-1, 0), (0, -1), None, ()]:
                for p in (0, least, -1, 10 ** 40, True):
                    agree(told[:k] + (level + ((place, p),),) + told[k + 1:], least)
        # Smaller numbers, and more places with all that follow from them.
        for _ in range(8):
            levels = [dict(level) for level in told]
            for k in range(1, len(levels)):
                for place in chance.sample(every, chance.randint(0, min(2, len(every)))):
                    levels[k].setdefault(place, chance.choice((0, least, least + 3)))
            for k in range(1, len(levels)):
                for place, low in levels[k - 1].items():
                    for bar, other in enumerate(plain.places(place)):
                        if other is not None:
                            levels[k][other] = max(0, min(levels[k].get(other, 10 ** 30), low + costs[bar]) - chance.choice((0, 0, 0, 1)))
            changed = tuple(tuple(level.items()) for level in levels)
            for cost in (least, least - 1, least - 2, 0):
                agree(changed, cost)
            agree(changed_within(chance, told), least)

    def test_numbers_that_are_smaller(self):
        gap = (ONE, BOX, 2, ONE)
        told = potentials(gap, BOOK, (1, 5))
        self.assert_same(((((None, 1), 0),), (((0, 0), 1),), (((0, 0), 2), ((1, 1), 6))), told)
        for wanted, other, cost in (
            (True, told, 2), (True, told, 1), (False, told, 3),
            (True, ((((None, 1), 0),), (((0, 0), 1),), (((0, 0), 2), ((1, 1), 0))), 2),
            (True, ((((None, 1), 0),), (((0, 0), 0),), (((1, 1), 5), ((0, 0), 1))), 1),
            (False, ((((None, 1), 0),), (((0, 0), 0),), (((1, 1), 5), ((0, 0), 1))), 2),
            (False, ((((None, 1), 0),), (((0, 0), 0),), (((1, 1), 6), ((0, 0), 1))), 1),
            (False, ((((None, 1), 0),), (((0, 0), 2),), (((1, 1), 6), ((0, 0), 2))), 2),
            (False, ((((None, 1), 1),), (((0, 0), 1),), (((0, 0), 2), ((1, 1), 6))), 2),
            (False, ((((None, 1), False),), (((0, 0), 1),), (((0, 0), 2), ((1, 1), 6))), 2),
            (False, ((((None, 0), 0),), (((0, 0), 1),), (((0, 0), 2), ((1, 1), 6))), 2),
            (True, ((((None, 1), 0),), (((1, 0), 9), ((0, 0), 1)), (((0, 0), 2), ((1, 1), 6))), 2),
            (False, ((((None, 1), 0),), (((1, 1), 0), ((0, 0), 1)), (((0, 0), 2), ((1, 1), 6))), 2),
            (True, ((((None, 1), 0),), (((1, 1), 0), ((0, 0), 1)), (((0, 0), 1), ((1, 1), 6))), 1),
            (False, ((((None, 1), 0),), (((0, 0), 1),), (((1, 1), 6),)), 2),
            (False, ((((None, 1), 0),), (((0, 0), 1),), (((0, 0), 2),)), 2),
            (False, ((((None, 1), 0),), (((0, 0), 1),), (((0, 0), 2), ((0, 0), 2), ((1, 1), 6))), 2),
        ):
            self.assert_answer(wanted, shows_least, gap, BOOK, (1, 5), other, cost)

    def test_anything(self):
        for number in (0, 1, 3):
            gap = (ONE, BOX, number, ONE)
            for thing in ANYTHING:
                self.assert_answer(False, shows_least, gap, BOOK, (1, 5), thing, 0)
                self.assert_answer(False, shows_least, gap, BOOK, (1, 5), (thing,) * (number + 1), 0)
                self.assert_answer(False, shows_least, gap, BOOK, (1, 5), ((thing,),) * (number + 1), -1)
                self.assert_answer(False, shows_least, gap, BOOK, (1, 5), ((((None, 1), 0),),) + ((thing,),) * (number + 1), thing)
                if thing not in (0, 1, -1, 10 ** 40) or isinstance(thing, bool):
                    self.assert_answer(False, shows_least, gap, ALL, (1, 5), potentials(gap, ALL, (1, 5)), thing)


class Example(Case):
    """[I8]."""

    def test_of_the_document(self):
        gap = (ONE, BOX, 3, ONE)
        self.assert_answer((3, (0, 0, 0)), cheapest, gap, BOOK, (1, 5))
        self.assert_answer((3, (0, 0, 0)), filling_by_cost, gap, BOOK, (1, 5), 0)
        self.assert_answer((7, (0, 1, 0)), filling_by_cost, gap, BOOK, (1, 5), 1)
        self.assert_answer(None, filling_by_cost, gap, BOOK, (1, 5), 2)


if __name__ == "__main__":
    unittest.main()

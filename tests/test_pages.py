"""Promises [L5] to [L7]: counterheld.pages."""

import random
import unittest

from counterheld.pages import BadTurns, best_pages, page_potentials, shows_pages
from tests.checks import Case
from tests.plainlines import PlainPages, badness, some_pieces
from tests.plainpapers import changed_within, deep
from tests.test_breaking import ANYTHING, EXAMPLE, ROOMS

WORD = (EXAMPLE, (5, 1), (0, 7, 2), 1, 1)


def some_turns(chance, many):
    return tuple(chance.choice((None, 0, 0, 1, 250, 1000, 10 ** 9)) for _ in range(many))


def some_pages(chance, many):
    """Arguments for pages of so many pieces."""
    most = chance.choice((1, 2, 3, 12))
    return (some_pieces(chance, many), chance.choice(ROOMS), some_turns(chance, many), chance.choice((1, most, (most + 1) // 2)), most)


class Pages(Case):
    def test_of_chance(self):
        chance = random.Random(251)
        met = 0
        for _ in range(400):
            args = some_pages(chance, chance.choice((1, 3, 5, 6)))
            plain = PlainPages(*args)
            best = plain.best_pages()
            self.assert_answer(best, best_pages, *args)
            self.assert_answer(best, best_pages, list(args[0]), list(args[1]), list(args[2]), *args[3:])
            met += best is not None and len(best[1]) > 1
            self.assert_answer(plain.page_potentials(), page_potentials, *args)
        self.assertGreater(met, 25)

    def test_ties(self):
        """Many lines and pages of one cost: fewer pages, then fewer lines, then the ones that come first."""
        chance = random.Random(252)
        free, even = ((0, 1), (0, 1), (0, 1)), ((1, 1), (1, 1), (1, 1))
        for piece in (free, even):
            for many in (1, 3, 5, 6):
                for most in (1, 2, 3, 6):
                    for least in range(1, most + 1):
                        for room in ((1, 1), (2, 1), (3, 1)):
                            turns = tuple(chance.choice((0, 0, 0, 5, None)) for _ in range(many))
                            args = ((piece,) * many, room, turns, least, most)
                            self.assert_answer(PlainPages(*args).best_pages(), best_pages, *args)

    def test_the_first_turn_says_nothing(self):
        for turn in (None, 0, 10 ** 9):
            self.assert_answer((252, ((2,), (3,))), best_pages, EXAMPLE, (5, 1), (turn, 7, 2), 1, 1)
        self.assert_answer(None, best_pages, EXAMPLE, (5, 1), (0, None, None), 1, 1)
        self.assert_answer((9007, ((1,), (3,))), best_pages, EXAMPLE, (5, 1), (0, 7, None), 1, 1)
        self.assert_answer((250, ((2, 3),)), best_pages, EXAMPLE, (5, 1), (0, 7, 0), 1, 2)
        self.assert_answer((250, ((2, 3),)), best_pages, EXAMPLE, (5, 1), (0, 7, 0), 2, 2)

    def test_many_pieces(self):
        chance = random.Random(253)
        for many in (60, 400):
            pieces = some_pieces(chance, many)
            args = (pieces, (11, 1), tuple(chance.choice((None, 3, 200)) for _ in range(many)), 2, 12)
            cost, pages = best_pages(*args)
            ends = tuple(end for page in pages for end in page)
            told = sum(badness(pieces, first, stop, (11, 1)) for first, stop in zip((0,) + ends[:-1], ends))
            self.assertEqual(cost, told + sum(args[2][page[-1]] for page in pages[:-1]))
            self.assertTrue(all(2 <= len(page) <= 12 for page in pages[:-1]) and 1 <= len(pages[-1]) <= 12)
            lows = page_potentials(*args)
            self.assertEqual(cost, min(low for (i, _), low in lows if i == many))
            self.assertTrue(shows_pages(*args, lows, cost))
            self.assertFalse(shows_pages(*args, lows, cost + 1))

    def test_example(self):
        self.assert_answer((252, ((2,), (3,))), best_pages, *WORD)


class Potentials(Case):
    """[L6]"""

    def test_told(self):
        chance = random.Random(254)
        for _ in range(100):
            args = some_pages(chance, chance.choice((1, 3, 6)))
            plain, told = PlainPages(*args), page_potentials(*args)
            best = plain.best_pages()
            self.assert_answer(best is None, shows_pages, *args, told, None)
            for total in (-1, 0, 10 ** 30) + (() if best is None else (best[0], best[0] + 1)):
                self.assert_answer(best is None or total <= best[0], shows_pages, *args, told, total)
                self.assert_answer(best is None or total <= best[0], shows_pages, *args, tuple(chance.sample(told, len(told))), total)

    def test_changed(self):
        chance = random.Random(255)
        met = 0
        for _ in range(80):
            args = some_pages(chance, chance.choice((1, 3, 5)))
            plain, told = PlainPages(*args), page_potentials(*args)
            best = plain.best_pages()
            total = None if best is None else best[0]
            for _ in range(25):
                lows = dict(told)
                place = chance.choice(list(lows))
                way = chance.randrange(5)
                if way == 0:
                    lows[place] += chance.choice((1, 5))
                if way == 1 and lows[place] > 0:
                    lows[place] -= 1
                if way == 2:
                    del lows[place]
                if way == 3:
                    lows[chance.randint(0, plain.many), chance.randint(0, plain.most)] = chance.choice((0, 3, 10 ** 20))
                if way == 4:
                    lows = {place: max(0, low - 250) for place, low in lows.items()}
                row = tuple(chance.sample(list(lows.items()), len(lows)))
                for goal in (total, 0, None, 300):
                    self.assert_answer(plain.shows(lows, goal), shows_pages, *args, row, goal)
                    met += plain.shows(lows, goal)
        self.assertGreater(met, 300)

    def test_wrong_forms(self):
        chance = random.Random(256)
        told = page_potentials(*WORD)
        self.assert_answer(True, shows_pages, *WORD, told, 252)
        wrong = ANYTHING + (
            list(told), told + told[-1:], told + (((4, 0), 0),), told + (((0, 2), 0),), told + (((-1, 0), 0),), told + (((0, -1), 0),),
            told[1:], tuple(list(pair) for pair in told), tuple((list(place), low) for place, low in told), told + (((True, 1), 5),),
            (((0, 0), False),) + told[1:], (((0, False), 0),) + told[1:], (((0, 0), -1),) + told[1:], told + (((0, 1), "5"),), told + (((0, 1),),),
            told + (((0, 1), 5, 5),), told + (((0, 1, 0), 5),), told + (((0, 1), None),), told + ((None, 5),), told + (None,), told + (((0, 1), -5),),
        )
        for thing in wrong:
            for total in (0, -3, None):
                self.assert_answer(False, shows_pages, *WORD, thing, total)
        for more in (((0, 1), 5), ((3, 0), 252), ((1, 1), 9000)):
            if more not in told:
                self.assert_answer(True, shows_pages, *WORD, told + (more,), 252)
        self.assert_answer(False, shows_pages, *WORD, told + (((3, 0), 251),), 252)
        for total in ANYTHING:
            self.assert_answer(type(total) is int and total <= 252, shows_pages, *WORD, told, total)
        for _ in range(400):
            thing = changed_within(chance, told)
            self.assertIn(shows_pages(*WORD, thing, 252), (False, True))


class Wrong(Case):
    def refuse(self, turns, least, most):
        for function in (best_pages, page_potentials):
            self.assert_raises(BadTurns, {}, function, EXAMPLE, (5, 1), turns, least, most)
        self.assert_raises(BadTurns, {}, shows_pages, EXAMPLE, (5, 1), turns, least, most, None, None)

    def test_turns(self):
        good = (0, 7, 2)
        for turns in (None, True, 0, "", "abc", (), [], {}, {0: 0, 1: 1, 2: 2}, good[:2], good + (0,), deep(44), (deep(43),) * 3):
            self.refuse(turns, 1, 1)
        for turn in (-1, 10 ** 9 + 1, True, False, "0", "", (), [0], {}, (0,)):
            for at in range(3):
                self.refuse(good[:at] + (turn,) + good[at + 1:], 1, 1)
        for number in (0, -1, 13, True, False, None, "1", (), [1], {}, 10 ** 30):
            self.refuse(good, number, 12)
            self.refuse(good, 1, number)
        self.refuse(good, 2, 1)
        self.refuse(good, 12, 11)
        self.assert_answer((252, ((2,), (3,))), best_pages, EXAMPLE, (5, 1), [10 ** 9, 0, 2], 1, 1)
        self.assert_answer((250, ((2, 3),)), best_pages, EXAMPLE, (5, 1), [None] * 3, 12, 12)
        self.assert_error_class(BadTurns)


if __name__ == "__main__":
    unittest.main()

"""Promises [I1], [I3], [I4] and [I8]: counterheld.gaps."""

import random
import unittest

from counterheld import costs
from counterheld.bartexts import read_bar
from counterheld.books import Book, moved
from counterheld.boxes import word_count
from counterheld.broken import broken_in, state_behind
from counterheld.gaps import BadGap, blocked, filling_at, filling_count, filling_index, is_blocked_by
from counterheld.moments import column
from counterheld.papers import table_of
from counterheld.refrains import refrain_at, refrain_count
from counterheld.scores import Score
from tests import plainboxes, plainly
from tests.checks import Case
from tests.plainpapers import changed_within, deep

BOX = (read_bar("1/4!1 C4"), read_bar("1/4!2 D4"))
PLAIN = ((("accent", 2),), ((((0,), (), 1, False),), (((0,), (), 1, True), ((), (), 0, False))))
BOOK = Book(*PLAIN)
ALL = Book((), ((),))
NOTHING = Book((), ((((), (), 0, True),),))
ONE = Score((("bar", BOX[1]),))
ANYTHING = (None, True, False, 0, 1, -1, 10 ** 40, "", "abc", (), [], {}, {0: 1}, ((),), [()], (None,), (0,), (((None, 1),),), deep(44), (deep(43),))


def some_score(chance, voices, most=10):
    """The rules of a score with so many voices."""
    rules = plainly.some_rules(chance, chance.randint(1, 6), most)
    while len(rules[0][1][0][2]) != voices:
        rules = plainly.some_rules(chance, chance.randint(1, 6), most)
    return rules


def some_gap(chance, many, middle=False, often=None, least=0):
    """A plain gap or refrain and the gap or refrain itself, with its book."""
    voices, bars = chance.randint(1, 4), chance.randint(1, 3)
    box = plainboxes.some_marked_box(chance, voices, bars, 2)
    scores = [some_score(chance, voices) for _ in range(3 if middle else 2)]
    number = chance.randint(least, many)
    rows = [plainly.written(rules)[-1] for rules in scores]
    ends = [column for row in rows for column in (row[0], row[-1])]
    plain = plainboxes.some_moving_book(chance, box, chance.randint(1, 5), often or chance.choice((0.1, 0.3, 0.5)), ends)
    told = plainboxes.Gap(rows[0], box, number, rows[-1], plain, rows[1] if middle else None)
    made = [Score(rules) for rules in scores]
    row = (made[0], box, number) + tuple(made[1:])
    return told, row, Book(*plain)


class Fillings(Case):
    """Each short filling against the whole score written out."""

    def check(self, plain, gap, book):
        wanted = plain.fillings()
        self.assert_answer(len(wanted), filling_count, gap, book)
        for index, word in enumerate(wanted):
            self.assert_same(word, filling_at(gap, book, index))
        for index in (-1, len(wanted), len(wanted) + 1, 10 ** 40):
            self.assert_answer(None, filling_at, gap, book, index)
        for length in {plain.number, max(0, plain.number - 1), plain.number + 1}:
            for word in plainboxes.words(len(plain.box), length):
                index = wanted.index(word) if word in wanted else None
                self.assert_same(index, filling_index(gap, book, word))
        return wanted

    def test_of_chance(self):
        chance = random.Random(111)
        met = set()
        for _ in range(120):
            plain, gap, book = some_gap(chance, 4)
            wanted = self.check(plain, gap, book)
            met.add((plain.number == 0, len(wanted) == 0, len(wanted) == len(plain.box) ** plain.number))
        self.assertGreater(len(met), 3)

    def test_lists_and_numbers_that_are_no_bars(self):
        gap = [ONE, [[list(column) for column in bar] for bar in BOX], 3, ONE]
        self.assert_answer(2, filling_count, gap, BOOK)
        self.assert_answer((0, 1, 0), filling_at, gap, BOOK, 1)
        self.assert_answer(1, filling_index, gap, BOOK, [0, 1, 0])
        for word in ((0, 2, 0), (0, -1, 0), (0, 12, 0), (0, 10 ** 40, 0), (0, 0), (0, 0, 0, 0), (), (1, 0, 0), (0, 0, 1), None, 3, "000", {0: 0}):
            self.assert_answer(None, filling_index, gap, BOOK, word)

    def test_what_is_broken_ahead_says_nothing(self):
        # The score ahead is broken all over, and its state counts.
        ahead = Score((("bar", BOX[1] * 3), ("times", 0, 10 ** 11)))
        self.assertEqual(3 * 10 ** 11 - 1, broken_in(ahead, BOOK, 0, ahead.count))
        self.assert_answer(2, filling_count, (ahead, BOX, 3, ONE), BOOK)
        self.assert_answer((0, 0, 0), filling_at, (ahead, BOX, 3, ONE), BOOK, 0)
        free = Score((("bar", BOX[1] + BOX[0]),))
        self.assert_answer(3, filling_count, (free, BOX, 3, ONE), BOOK)

    def test_many_bars(self):
        fibonacci = [word_count(BOX, BOOK, length) for length in range(401)]
        zero = Score((("bar", BOX[0]), ("times", 0, 10 ** 12)))
        for number in (0, 1, 2, 100, 399, 400):
            self.assert_answer(fibonacci[number], filling_count, (zero, BOX, number, zero), BOOK)
            self.assert_answer(2 ** number, filling_count, (zero, BOX, number, zero), ALL)
            index = fibonacci[number] // 3
            word = filling_at((zero, BOX, number, zero), BOOK, index)
            self.assert_answer(index, filling_index, (zero, BOX, number, zero), BOOK, word)
            self.assert_answer(None, filling_at, (zero, BOX, number, zero), BOOK, fibonacci[number])
        self.assert_answer((1, 0) * 199 + (1, 0), filling_at, (zero, BOX, 400, ONE), BOOK, filling_count((zero, BOX, 400, ONE), BOOK) - 1)

    def test_great_scores(self):
        chance = random.Random(112)
        for _ in range(12):
            rules, counts = plainly.great_rules(chance, chance.choice((10, 60)))
            voices = len(rules[0][1][0][2])
            score = Score(rules)
            bars = chance.randint(1, 3)
            box = plainboxes.some_marked_box(chance, voices, bars, 3)
            book = Book(*plainboxes.some_moving_book(chance, box, 6, 0.05))
            short = Score((("bar", plainly.some_bar(chance, voices, 3)),))
            for ahead, behind in ((score, short), (short, score), (score, score)):
                found = []
                for word in plainboxes.words(bars, 2):
                    if self.is_filled(ahead, box, word, behind, book):
                        found.append(word)
                gap = (ahead, box, 2, behind)
                self.assert_answer(len(found), filling_count, gap, book)
                self.assert_answer(found, lambda: [filling_at(gap, book, index) for index in range(len(found))])
                self.assertEqual(bool(found), blocked(gap, book) is None)

    def is_filled(self, ahead, box, word, behind, book):
        """By one score of all three, the last rules of the scores and the bars one behind another."""
        many = len(ahead.rules)
        rules = list(ahead.rules) + [("bar", plainboxes.columns_of(box, word)), ("then", many - 1, many)]
        rules += [self.moved(rule, many + 2) for rule in behind.rules]
        rules.append(("then", many + 1, len(rules) - 1))
        if len(rules) > 60 or ahead.count + behind.count > 10 ** 11:
            # They make no score, but can be gone through one behind the other.
            return self.is_filled_in_turn(ahead, box, word, behind, book)
        score = Score(rules)
        return broken_in(score, book, ahead.count, score.count) == 0

    def moved(self, rule, by):
        numbers = {"bar": 0, "then": 2}.get(rule[0], 1)
        return rule[:1] + tuple(i + by for i in rule[1:1 + numbers]) + rule[1 + numbers:]

    def is_filled_in_turn(self, ahead, box, word, behind, book):
        state, before = state_behind(ahead, book, ahead.count - 1), column(ahead, ahead.count - 1)
        for other in plainboxes.columns_of(box, word) + [column(behind, 0)]:
            state, is_broken = moved(book, state, before, other)
            before = other
            if is_broken:
                return False
        view = (1, tuple(range(behind.voices)))
        return table_of(behind, book, len(behind.rules) - 1, 0, behind.count, view)[state][1] == 0


class Blocked(Case):
    """[I4]."""

    def test_of_chance(self):
        chance = random.Random(113)
        met = 0
        for _ in range(250):
            plain, gap, book = some_gap(chance, 4, often=0.6)
            paper = blocked(gap, book)
            levels = plain.levels([0] * len(plain.box))
            if any(plain.fits(place) for place in levels[-1]):
                self.assertIsNone(paper)
                told = tuple(tuple(level) for level in levels)
                self.assert_answer(False, is_blocked_by, gap, book, told)
                continue
            met += len(levels) > 1
            self.assert_same(tuple(tuple(sorted(level)) for level in levels), paper)
            self.check_paper(chance, plain, gap, book, paper)
        self.assertGreater(met, 40)

    def check_paper(self, chance, plain, gap, book, paper):
        self.assert_answer(True, is_blocked_by, gap, book, paper)
        self.assert_answer(True, is_blocked_by, gap, book, tuple(level[::-1] for level in paper))
        for wrong in (list(paper), paper + ((),), paper[:-1], paper[1:], tuple(list(level) for level in paper), (paper[0] + paper[0],) + paper[1:], ((),) + paper[1:]):
            if repr(wrong) != repr(paper):
                self.assert_answer(False, is_blocked_by, gap, book, wrong)
        every = [(bar, state) for bar in range(len(plain.box)) for state in range(len(plain.book[1]))]
        for k, level in enumerate(paper):
            for m, place in enumerate(level):
                for other in (level[:m] + level[m + 1:], level + (place,), level[:m] + (list(place),) + level[m + 1:], level[:m] + (place + (0,),) + level[m + 1:], level[:m] + ((place[0], True),) + level[m + 1:], level[:m] + ((False, place[1]),) + level[m + 1:]):
                    changed = paper[:k] + (other,) + paper[k + 1:]
                    self.assert_answer(False, is_blocked_by, gap, book, changed)
            for place in chance.sample(every, min(3, len(every))) + [(None, 0), plain.start, (len(plain.box), 0), (0, len(plain.book[1])), (-1, 0), (0, -1), (0, None), None, 0, ()]:
                changed = paper[:k] + (level + (place,),) + paper[k + 1:]
                self.assert_answer(plain.is_blocked_by(changed), is_blocked_by, gap, book, changed)
        # More places, with all that follow from them.
        for _ in range(6):
            levels = [list(level) for level in paper]
            for k in range(1, len(levels)):
                levels[k] += [place for place in chance.sample(every, chance.randint(0, min(2, len(every)))) if place not in levels[k]]
            for k in range(1, len(levels)):
                levels[k] += [place for place in {other for place in levels[k - 1] for other in plain.places(place)} if place is not None and place not in levels[k]]
            changed = tuple(tuple(level) for level in levels)
            self.assert_answer(plain.is_blocked_by(changed), is_blocked_by, gap, book, changed)
            thing = changed_within(chance, paper)
            self.assertEqual(plain.is_blocked_by(thing), is_blocked_by(gap, book, thing), thing)

    def test_more_places_are_let(self):
        strict = Book((("accent", 2), ("accent", 1)), ((((0,), (), 1, False), ((1,), (), 2, True)), (((), (), 0, True),), ()))
        gap = (Score((("bar", BOX[0]),)), BOX, 2, ONE)
        # The score ahead leads to the state 2, where nothing is broken, so that all fits.
        self.assert_answer(None, blocked, gap, strict)
        gap = (Score((("bar", (((1, 4), 0, (((0, 4), True),)),)),)), BOX, 2, ONE)
        paper = (((None, 0),), ((1, 1),), ())
        self.assert_answer(paper, blocked, gap, strict)
        for wanted, other in (
            (True, (((None, 0),), ((1, 1),), ())), (True, (((None, 0),), ((1, 1), (0, 1)), ())), (True, (((None, 0),), ((0, 1), (1, 1)), ((0, 1),))),
            (False, (((None, 0),), ((0, 1),), ())), (False, (((None, 0),), ((1, 1), (0, 2)), ())), (False, (((None, 0),), ((1, 1),), ((0, 2),))),
            (False, (((None, 0),), (), ())), (False, (((None, 1),), ((1, 1),), ())), (False, (((None, 0),), ((1, 1),))), (False, (((None, 0), (0, 0)), ((1, 1),), ())),
            (False, (((None, False),), ((1, 1),), ())), (False, (((None, 0),), ((1, True),), ())), (False, (((None, 0),), ((1, 1), (None, 0)), ())),
        ):
            self.assert_answer(wanted, is_blocked_by, gap, strict, other)

    def test_other_numbers_of_bars(self):
        papers = [blocked((ONE, BOX, number, ONE), NOTHING) for number in range(6)]
        for number in range(6):
            for other, paper in enumerate(papers):
                self.assert_answer(number == other, is_blocked_by, (ONE, BOX, number, ONE), NOTHING, paper)
        self.assert_answer((((None, 0),),) + ((),) * 400, blocked, (ONE, BOX, 400, ONE), NOTHING)
        self.assert_answer(True, is_blocked_by, (ONE, BOX, 400, ONE), NOTHING, (((None, 0),),) + ((),) * 400)

    def test_many_bars_and_places(self):
        box = tuple((((1, 4), k % 10, (((k, 4), True),)),) for k in range(12))
        # Goes round all states; the score behind fits in none of them.
        book = Book((("lasts", (2, 1), (2, 1)),), tuple((((0,), (), s, True), ((), (), (s + 1) % 24, False)) for s in range(24)))
        behind = Score((("bar", (((1, 2), 0, (((0, 4), True),)),)), ("times", 0, 10 ** 11)))
        ahead = Score((("bar", box[0]), ("times", 0, 10 ** 11 + 1)))
        for number in (0, 1, 400):
            gap = (ahead, box, number, behind)
            paper = blocked(gap, book)
            self.assertEqual([1] + [12] * number, [len(level) for level in paper])
            self.assert_answer(True, is_blocked_by, gap, book, paper)
            every = tuple((bar, state) for bar in range(12) for state in range(24))
            self.assert_answer(True, is_blocked_by, gap, book, paper[:1] + (every,) * number)
            if number > 0:
                lacking = tuple(place for place in every if place != paper[1][5])
                self.assert_answer(False, is_blocked_by, gap, book, paper[:1] + (lacking,) + (every,) * (number - 1))

    def test_anything(self):
        for number in (0, 1, 3):
            gap = (ONE, BOX, number, ONE)
            for thing in ANYTHING:
                wanted = number == 0 and isinstance(thing, tuple) and repr(thing) == "(((None, 1),),)"
                self.assert_answer(wanted, is_blocked_by, gap, BOOK, thing)
                self.assert_answer(False, is_blocked_by, gap, BOOK, (thing,) * (number + 1))
                self.assert_answer(False, is_blocked_by, gap, BOOK, ((thing,),) * (number + 1))
                self.assert_answer(False, is_blocked_by, gap, BOOK, (((None, 1),),) + ((thing,),) * (number + 1))


class Wrong(Case):
    TWO = Score((("bar", plainboxes.TWO_VOICES),))
    NUMBERS = (None, True, False, "0", "", (), [], {}, (0,), [3], deep(44))

    def calls(self, ahead, box, number, behind, told_costs=(1, 1)):
        """Every function of part I about a gap, or a refrain."""
        gap = (ahead, box, number, behind)
        told = [(filling_count, (gap, BOOK)), (filling_at, (gap, BOOK, 0)), (filling_index, (gap, BOOK, None)), (blocked, (gap, BOOK)), (is_blocked_by, (gap, BOOK, None))]
        told += [(costs.cheapest, (gap, BOOK, told_costs)), (costs.filling_by_cost, (gap, BOOK, told_costs, 0))]
        return told + [(costs.potentials, (gap, BOOK, told_costs)), (costs.shows_least, (gap, BOOK, told_costs, None, None))]

    def refrain_calls(self, *refrain):
        return [(refrain_count, (refrain, BOOK)), (refrain_at, (list(refrain), BOOK, 0))]

    def test_voices(self):
        for ahead, box, behind in ((self.TWO, BOX, ONE), (ONE, BOX, self.TWO), (self.TWO, BOX, self.TWO), (ONE, (plainboxes.TWO_VOICES,), ONE)):
            for number in (3, -1, None, 401, True):
                for function, arguments in self.calls(ahead, box, number, behind, None):
                    self.assert_raises(BadGap, {"reason": "voices"}, function, *arguments)
                for middle in (ONE, self.TWO):
                    for function, arguments in self.refrain_calls(ahead, box, number, middle, behind):
                        self.assert_raises(BadGap, {"reason": "voices"}, function, *arguments)
        for function, arguments in self.refrain_calls(ONE, BOX, 0, self.TWO, ONE):
            self.assert_raises(BadGap, {"reason": "voices"}, function, *arguments)

    def test_number(self):
        for number in self.NUMBERS + (-1, 401, 10 ** 40, -10 ** 40):
            for told_costs in ((1, 1), None, ()):
                for function, arguments in self.calls(ONE, BOX, number, ONE, told_costs):
                    self.assert_raises(BadGap, {"reason": "number"}, function, *arguments)
        for number in self.NUMBERS + (-1, 0, 17, 10 ** 40, -10 ** 40):
            for function, arguments in self.refrain_calls(ONE, BOX, number, ONE, ONE):
                self.assert_raises(BadGap, {"reason": "number"}, function, *arguments)
        for number in (0, 1, 400):
            self.assertGreater(filling_count((ONE, BOX, number, ONE), ALL), 0)
        for number in (1, 16):
            self.assert_answer(2 ** number, refrain_count, (ONE, BOX, number, ONE, ONE), ALL)

    def test_costs(self):
        gap = (ONE, BOX, 3, ONE)
        wrong = (None, True, 0, "", "ab", {}, {0: 1, 1: 2}, (), [], (1,), (1, 1, 1), [1] * 12, ((1, 1),), (1, (1,)))
        wrong += tuple((1, number) for number in (None, True, False, "1", -1, 10 ** 9 + 1, 10 ** 40, (), [1], deep(44))) + ((-1, 1), (True, 1))
        for told_costs in wrong:
            for function, arguments in self.calls(*gap, told_costs)[5:]:
                self.assert_raises(BadGap, {"reason": "costs"}, function, *arguments)
        self.assert_answer((0, (0, 0, 0)), costs.cheapest, gap, BOOK, (0, 10 ** 9))
        self.assert_answer((2 * 10 ** 9, (0, 1, 0)), costs.cheapest, gap, BOOK, [10 ** 9, 0])

    def test_the_error(self):
        self.assert_error_class(BadGap)


class Example(Case):
    """[I8]."""

    def test_of_the_document(self):
        self.assert_answer(0, filling_count, (ONE, BOX, 0, ONE), BOOK)
        self.assert_answer((((None, 1),),), blocked, (ONE, BOX, 0, ONE), BOOK)
        self.assert_answer(True, is_blocked_by, (ONE, BOX, 0, ONE), BOOK, (((None, 1),),))
        self.assert_answer(2, filling_count, (ONE, BOX, 3, ONE), BOOK)
        self.assert_answer(((0, 0, 0), (0, 1, 0), None), lambda: tuple(filling_at((ONE, BOX, 3, ONE), BOOK, index) for index in range(3)))


if __name__ == "__main__":
    unittest.main()

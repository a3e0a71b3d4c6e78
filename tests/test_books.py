"""Promises [E1] to [E5]: counterheld.books."""

import random
import unittest

from counterheld.books import BadBook, Book, exchanged_book, holds, moved, run, turned_book
from counterheld.broken import broken, broken_count, first_broken
from counterheld.moments import columns
from counterheld.scores import Score
from tests import plainbooks, plainly
from tests.checks import Case, within

LONG = 3 * 10 ** 30
STATES = ((((), (), 0, False),),)
C, D, E, G, A = (0, 4), (2, 3), (4, 2), (1, 4), (3, 3)
NUMBERS = (None, True, False, "0", (0,), [], {}, 10 ** 30, -1 - 10 ** 30)
NO_ROWS = (None, True, 0, 7, "", "abc", {}, {0: 1})


def lists(thing):
    """The thing with lists for all tuples."""
    return [lists(part) for part in thing] if isinstance(thing, (list, tuple)) else thing


def one_column(*entries, duration=(1, 4), accent=0):
    return (duration, accent, entries)


class Tests(Case):
    """[E1]: what a test tells of a move."""

    def check(self, wanted, test, one, other):
        self.assert_answer(wanted, holds, test, one, other)
        self.assert_answer(wanted, holds, lists(test), lists(one), lists(other))
        self.assertEqual(wanted, plainbooks.holds(test, one, other))
        book = Book((test,), ((((0,), (), 1, True),), ()))
        self.assert_answer((1, True) if wanted else (0, False), moved, book, 0, one, other)
        self.assert_answer((1, False), moved, book, 1, lists(one), lists(other))

    def test_accent(self):
        for accent in range(10):
            for a in range(10):
                self.check(a == accent, ("accent", a), one_column(None, accent=9 - accent), one_column(None, accent=accent))

    def test_begins_silent_loose(self):
        for before in (None, (C, True), (C, False), (G, True)):
            for entry in (None, (C, True), (C, False)):
                one, other = one_column(None, before), one_column((C, True), entry)
                self.check(entry == (C, True), ("begins", 1), one, other)
                self.check(entry is None, ("silent", 1), one, other)
                self.check(entry == (C, False) and before not in ((C, True), (C, False)), ("loose", 1), one, other)

    def test_voices_that_are_not_there(self):
        full = ((C, True), (E, True), (C, True), (E, True))
        for many in range(1, 5):
            one, other = one_column(*full[::-1][:many]), one_column(*full[:many])
            empty = one_column(*[None] * many)
            for v in range(4):
                self.check(v < many, ("begins", v), empty, other)
                self.check(v < many, ("silent", v), other, empty)
                self.check(v < many, ("loose", v), empty, one_column(*[(C, False)] * many))
                self.check(v < many, ("leap", v, -200, 200), one, other)
                self.check(v < many, ("by", v, ((4, -2), (-4, 2))), one_column(*full[:many]), one_column(*[((E, C)[k % 2], True) for k in range(many)]))
                for w in range(4):
                    if v != w:
                        self.check(max(v, w) < many, ("apart", v, w, -200, 200), one, other)
                        self.check(max(v, w) < many, ("class", v, w, tuple(range(12))), one, other)
                        self.check(max(v, w) < many, ("along", v, w), one_column(*[(C, True)] * many), one_column(*[(E, True)] * many))

    def test_leap_and_by(self):
        one, other = one_column((C, False)), one_column((G, True))
        for low, high, wanted in ((7, 7, True), (6, 7, True), (7, 8, True), (8, 200, False), (-200, 6, False), (-200, 200, True), (8, 6, False), (7, 6, False)):
            self.check(wanted, ("leap", 0, low, high), one, other)
            self.check(wanted, ("leap", 0, -high, -low), one_column((G, True)), one_column((C, True)))
        for intervals, wanted in ((((1, 0),), True), ((), False), (((-1, 0), (0, 0)), False), (((13, -7),), False), (((0, 0),) * 11 + ((1, 0),), True), (((1, 0), (1, 0)), True)):
            self.check(wanted, ("by", 0, intervals), one, other)
        for test in (("leap", 0, -200, 200), ("by", 0, ((1, 0), (0, 0)))):
            self.check(False, test, one, one_column((G, False)))
            self.check(False, test, one, one_column(None))
            self.check(False, test, one_column(None), other)
            self.check(True, test, other, other)

    def test_apart_and_class(self):
        # From E up to C are -4 keys, that is 8 modulo 12.
        for entries in (((E, True), (C, True)), ((E, False), (C, False)), ((E, False), (C, True))):
            other = one_column(*entries)
            for one in (one_column(None, None), other):
                for low, high, wanted in ((-4, -4, True), (-5, -4, True), (-4, 0, True), (-3, 200, False), (-200, -5, False), (-3, -5, False)):
                    self.check(wanted, ("apart", 0, 1, low, high), one, other)
                    self.check(wanted, ("apart", 1, 0, -high, -low), one, other)
                for number in range(12):
                    self.check(number == 8, ("class", 0, 1, (number,)), one, other)
                    self.check(number == 4, ("class", 1, 0, (number, number)), one, other)
                self.check(False, ("class", 0, 1, ()), one, other)
                self.check(True, ("class", 0, 1, tuple(range(12))), one, other)
        for entries in ((None, (C, True)), ((C, True), None), (None, None)):
            self.check(False, ("apart", 0, 1, -200, 200), other, one_column(*entries))
            self.check(False, ("class", 0, 1, tuple(range(12))), other, one_column(*entries))
        self.check(True, ("class", 0, 1, (0,)), other, one_column((C, True), ((0, -90), True)))

    def test_lasts(self):
        one, other = one_column(None, duration=(3, 8)), one_column(None, duration=(1, 4))
        for low, high, wanted in (
            ((2, 3), (2, 3), True), ((0, 1), (1000, 1), True), ((2, 3), (1, 1), True), ((1, 2), (2, 3), True), ((0, 1), (0, 1), False),
            ((2 * LONG + 1, 3 * LONG), (1, 1), False), ((0, 1), (2 * LONG - 1, 3 * LONG), False), ((1, 1), (1, 2), False),
            ((2 * LONG - 1, 3 * LONG), (2 * LONG + 1, 3 * LONG), True),
        ):
            self.check(wanted, ("lasts", low, high), one, other)
        great = one_column(None, duration=(10 ** 40 + 1, 7))
        self.check(True, ("lasts", (1, 1), (1, 1)), great, great)
        self.check(True, ("lasts", (1000, 1), (1000, 1)), one_column(None, duration=(1, 1000)), one_column(None, duration=(1, 1)))
        self.check(False, ("lasts", (0, 1), (1000, 1)), one_column(None, duration=(1, 1000)), one_column(None, duration=(1001, 1000)))

    def test_along(self):
        for step, beside, wanted in ((1, 1, True), (-1, -1, True), (1, -1, False), (0, 1, False), (1, 0, False), (0, 0, False)):
            one = one_column((C, False), (C, True))
            other = one_column(((0, 4 + step), True), ((0, 4 + beside), True))
            self.check(wanted, ("along", 0, 1), one, other)
            self.check(wanted, ("along", 1, 0), one, other)
        # The semitone, up and down: (7, -4) goes up one key.
        for up, beside, wanted in ((1, 1, True), (-1, -1, True), (1, -1, False), (-1, 1, False), (1, 0, False), (0, -1, False)):
            one = one_column((C, True), (G, True))
            other = one_column(((7 * up, 4 - 4 * up), True), ((1 + 7 * beside, 4 - 4 * beside), True))
            self.check(wanted, ("along", 0, 1), one, other)
        # One height spelled in two ways is neither up nor down.
        self.check(False, ("along", 0, 1), one_column((C, True), (C, True)), one_column(((12, -3), True), (G, True)))
        up = one_column((G, True), (G, True))
        self.check(True, ("along", 0, 1), one_column((C, True), (E, True)), up)
        for one, other in (
            (one_column((C, True), None), up), (one_column(None, (C, True)), up),
            (one_column((C, True), (C, True)), one_column((G, False), (G, True))), (one_column((C, True), (C, True)), one_column((G, True), None)),
        ):
            self.check(False, ("along", 0, 1), one, other)

    def test_the_move_of_column_0(self):
        other = one_column((C, True), (G, False), accent=3)
        ahead = plainbooks.silence(2)
        for test, wanted in (
            (("accent", 3), True), (("accent", 0), False), (("begins", 0), True), (("loose", 1), True), (("loose", 0), False),
            (("leap", 0, -200, 200), False), (("by", 0, ((0, 0),)), False), (("apart", 0, 1, 7, 7), True), (("class", 1, 0, (5,)), True),
            (("lasts", (0, 1), (1000, 1)), False), (("along", 0, 1), False),
        ):
            self.check(wanted, test, ahead, other)
            book = Book((test,), ((((0,), (), 1, True),), ()))
            score = Score((("bar", (other,)), ("times", 0, 10 ** 11)))
            self.assertEqual(wanted, first_broken(score, book) == 0)
            self.assert_answer(((1, True),) if wanted else ((0, False),), run, book, (other,), 0)

    def test_of_chance(self):
        chance = random.Random(61)
        met = {word: set() for word in plainbooks.WORDS}
        for _ in range(12000):
            voices = chance.randint(1, 4)
            tones = [plainly.some_tone(chance, 2) for _ in range(2)]
            one, other = [((1, chance.randint(1, 3)), chance.choice((0, 1)), tuple(plainly.some_entry(chance, tones) for _ in range(voices))) for _ in range(2)]
            if chance.random() < 0.1:
                one = plainbooks.silence(voices)
            test = plainbooks.some_test(chance, far=2)
            wanted = plainbooks.holds(test, one, other)
            met[test[0]].add(wanted)
            self.assert_same(wanted, holds(test, one, other))
        self.assertEqual([{True, False}] * 10, list(met.values()))

    def test_tones_and_durations_of_any_size(self):
        one, other = one_column(((10 ** 6, -5), True), duration=(10 ** 20, 3)), one_column(((10 ** 6 + 1, -5), True), duration=(10 ** 20, 1))
        self.check(True, ("leap", 0, 7, 7), one, other)
        self.check(True, ("by", 0, ((1, 0),)), one, other)
        self.check(True, ("lasts", (3, 1), (3, 1)), one, other)


class Books(Case):
    """[E2] and [E3]."""

    def check_run(self, book, plain, row, state):
        self.assert_answer(plainbooks.run(plain, row, state), run, book, row, state)
        before = plainbooks.silence(len(row[0][2]))
        for column in row[:8]:
            self.assert_answer(plainbooks.moved(plain, state, before, column), moved, book, state, before, column)
            before, state = column, plainbooks.moved(plain, state, before, column)[0]

    def test_of_chance(self):
        chance = random.Random(62)
        for _ in range(150):
            plain = plainbooks.some_book(chance, chance.randint(0, 16), chance.randint(1, 24), chance.randint(0, 16))
            book = Book(*plain)
            self.assert_same(plain, (book.tests, book.states))
            row = tuple(plainly.some_bar(chance, chance.randint(1, 4), 64))
            for state in range(len(plain[1])):
                self.check_run(book, plain, row, state)

    def test_the_greatest_books(self):
        chance = random.Random(63)
        for _ in range(5):
            tests = tuple(plainbooks.some_test(chance) for _ in range(16))
            states = tuple(
                tuple((tuple(chance.randrange(16) for _ in range(chance.choice((1, 2, 16)))), tuple(chance.randrange(16) for _ in range(chance.choice((0, 1, 16)))), chance.randrange(24), chance.random() < 0.5) for _ in range(16))
                for _ in range(24)
            )
            book = Book(tests, states)
            self.assert_same((tests, states), (book.tests, book.states))
            row = plainly.some_bar(chance, 4, 64) * 20
            for many in (1, 2, 1000):
                for state in (0, 7, 23):
                    self.check_run(book, (tests, states), row[:many], state)

    def test_very_many_moves(self):
        """What is kept of moves does not grow without end, and is right when it begins anew."""
        chance = random.Random(68)
        plain = plainbooks.some_book(chance, 4, 3, 5)
        book = Book(*plain)
        rows = [tuple(((n, 7 + k), n % 3, ((((n + k) % 19, k), n % 2 == 0), None)) for n in range(1, 1001)) for k in range(25)]
        for row in rows + rows[:2]:
            self.assertEqual(plainbooks.run(plain, row, 1), run(book, row, 1))
        self.assertLess(len(book.steps.moves), 21000)

    def test_the_first_tuple_that_applies(self):
        tests = (("accent", 1), ("begins", 0), ("silent", 0))
        one = one_column(None)
        states = (
            (((0, 1), (), 1, True), ((0,), (), 2, False), ((), (0,), 3, True), ((), (), 4, True)),
            (),
            (((2,), (2,), 0, True), ((1,), (1, 2), 1, True)),
            (((), (), 1, True), ((), (), 2, False)),
            (((0, 0), (2, 2), 0, True), ((), (0, 1), 4, True)),
        )
        book = Book(tests, states)
        for accent, entry, wanted in (
            (1, (C, True), ((1, True), (1, False), (2, False), (1, True), (0, True))),
            (1, (C, False), ((2, False), (1, False), (2, False), (1, True), (0, True))),
            (0, (C, True), ((3, True), (1, False), (2, False), (1, True), (4, False))),
            (0, None, ((3, True), (1, False), (2, False), (1, True), (4, True))),
            (1, None, ((2, False), (1, False), (2, False), (1, True), (4, False))),
        ):
            for state in range(5):
                if (accent, entry, state) == (0, (C, True), 4):
                    self.assert_answer((4, False), moved, book, state, one, one_column(entry, accent=accent))
                    continue
                other = one_column(entry, accent=accent)
                self.assertEqual(plainbooks.moved((tests, states), state, one, other), moved(book, state, one, other))
                if state < 4:
                    self.assert_answer(wanted[state], moved, book, state, one, other)

    def test_wanted_and_unwanted_at_once(self):
        book = Book((("accent", 0),), ((((0,), (0,), 0, True),),))
        self.assert_answer(((0, False),) * 3, run, book, (one_column(None), one_column(None, accent=1), one_column(None)), 0)

    def test_lists_for_tuples(self):
        chance = random.Random(64)
        for _ in range(30):
            plain = plainbooks.some_book(chance, 10, 6, 6)
            book = Book(*lists(plain))
            self.assert_same(plain, (book.tests, book.states))
            row = plainly.some_bar(chance, 2, 20)
            self.assert_answer(plainbooks.run(plain, row, 3), run, book, lists(row), 3)

    def test_changed_behind_the_making(self):
        tests = [["by", 0, [[1, 0], [2, -1]]], ["class", 0, 1, [0, 7]], ["lasts", [1, 2], [2, 1]], ["accent", 1]]
        states = [[[[0], [1], 1, True], [[], [], 0, False]], []]
        book = Book(tests, states)
        told = (
            (("by", 0, ((1, 0), (2, -1))), ("class", 0, 1, (0, 7)), ("lasts", (1, 2), (2, 1)), ("accent", 1)),
            ((((0,), (1,), 1, True), ((), (), 0, False)), ()),
        )
        self.assert_same(told, (book.tests, book.states))
        tests[0][2][0][0] = 9
        tests[1][3].append(5)
        tests[2][1][0] = 0
        tests[3][1] = 7
        tests.append(None)
        states[0][0][0][0] = 3
        states[0][1][2] = 1
        states[1].append(5)
        states.append([])
        self.assert_same(told, (book.tests, book.states))
        self.assert_answer((1, True), moved, book, 0, one_column((C, True)), one_column((G, True), accent=1))

    def test_no_tests_and_one_state(self):
        book = Book((), [[]])
        self.assert_same(((), ((),)), (book.tests, book.states))
        self.assert_answer(((0, False),), run, book, (one_column(None),), 0)
        book = Book([], ((((), (), 0, True),),))
        self.assert_answer(((0, True),) * 2, run, book, (one_column(None),) * 2, 0)

    def test_voices_that_the_score_does_not_have(self):
        book = Book((("silent", 1), ("silent", 0)), ((((0,), (), 0, True), ((), (1,), 0, True)),))
        score = Score((("bar", (one_column(None), one_column((C, True)))), ("times", 0, 5)))
        self.assert_answer(5, broken_count, score, book)


GOOD = (
    ("accent", 0), ("begins", 0), ("silent", 3), ("loose", 1), ("leap", 0, -200, 200), ("by", 0, ((1000, -1000),) * 12),
    ("apart", 3, 0, 200, -200), ("class", 0, 3, (0, 11) * 6), ("lasts", (0, 1), (1000, 1)), ("along", 1, 2),
    ("by", 0, ()), ("class", 1, 0, []), ("accent", 9), ("lasts", (10 ** 50 * 1000 - 1, 10 ** 50), (1, 10 ** 60)),
)
WRONG_TESTS = (
    [None, True, 0, "accent", (), [], {}, ("accent",), ("accent", 0, 0), (0, "accent"), (None, 0), (["accent"], 0), ("Accent", 0), ("tone", 0), ("", 0)]
    + [("accent", a) for a in NUMBERS + (-1, 10)]
    + [(word, v) for word in ("begins", "silent", "loose") for v in NUMBERS + (-1, 4)]
    + [("begins",), ("silent", 0, 1), ("loose", 0, 0)]
    + [("leap", v, 0, 0) for v in NUMBERS + (-1, 4)]
    + [("leap", 0, low, 0) for low in NUMBERS + (-201, 201)] + [("leap", 0, 0, high) for high in NUMBERS + (-201, 201)] + [("leap", 0, 0), ("leap", 0, 0, 0, 0)]
    + [("by", v, ()) for v in NUMBERS + (-1, 4)] + [("by", 0, thing) for thing in NO_ROWS + (((0, 0),) * 13, (0, 0), ((0,),), ((0, 0, 0),), ((0, 1001),), ((-1001, 0),), ((0, True),), ((None, 0),), (None,), ("ab",))] + [("by", 0), ("by", 0, (), ())]
    + [(word, v, 1) + rest for word, rest in (("apart", (0, 0)), ("class", ((),)), ("along", ())) for v in NUMBERS + (-1, 4, 1)]
    + [(word, 2, v) + rest for word, rest in (("apart", (0, 0)), ("class", ((),)), ("along", ())) for v in NUMBERS + (-1, 4, 2)]
    + [("apart", 0, 1, low, 0) for low in NUMBERS + (-201, 201)] + [("apart", 0, 1, 0, high) for high in NUMBERS + (-201, 201)] + [("apart", 0, 1, 0), ("apart", 0, 1, 0, 0, 0)]
    + [("class", 0, 1, thing) for thing in NO_ROWS + ((0,) * 13, (12,), (-1,), (True,), (None,), ((0,),), ("0",))] + [("class", 0, 1), ("class", 0, 1, 0, 0)]
    + [("lasts", low, (1, 1)) for low in NO_ROWS + ((), (1,), (1, 1, 1), (2, 2), (0, 2), (1, 0), (1, -1), (-1, 1), (1001, 1), (10 ** 53 + 1, 10 ** 50), (True, 1), (1, True), (None, 1), ("1", 1), (2, 4))]
    + [("lasts", (1, 1), high) for high in NO_ROWS + ((), (2, 2), (0, 2), (1, 0), (-1, 1), (1001, 1), (1, True))] + [("lasts", (1, 1)), ("lasts", (1, 1), (1, 1), (1, 1))]
    + [("along", 0), ("along", 0, 1, 2)]
)
GOOD_TUPLE = ((0, 1), (2,), 1, True)
WRONG_TUPLES = (
    [None, True, 0, "abcd", (), {}, GOOD_TUPLE[:3], GOOD_TUPLE + (0,)]
    + [(row, (), 0, True) for row in NO_ROWS + ((3,), (-1,), (True,), (None,), ("0",), ((0,),), (0,) * 17)]
    + [((), row, 0, True) for row in NO_ROWS + ((3,), (-1,), (False,), (0, 1, 2, 3), (2,) * 17)]
    + [((), (), following, True) for following in NUMBERS + (-1, 2)]
    + [((), (), 0, thing) for thing in (None, 0, 1, "True", (), [True])]
)


class Wrong(Case):
    def wrong(self, part, number, tests, states):
        self.assert_raises(BadBook, {"part": part, "number": number}, Book, tests, states)

    def test_wrong_tests(self):
        for test in WRONG_TESTS:
            self.wrong("tests", 0, (test,), ((),))
            self.wrong("tests", 14, GOOD + (test,), ((),))
            self.wrong("tests", 3, GOOD[:3] + (test, None), ((),))
            self.wrong("tests", 1, [GOOD[4], test], None)

    def test_right_tests(self):
        for test in GOOD:
            told = Book((test,), STATES).tests
            self.assertEqual(1, len(told))
            self.assert_same(lists(test), lists(told[0]))
        self.assertEqual(14, len(Book(GOOD, STATES).tests))
        self.assertEqual(16, len(Book(GOOD[:8] * 2, STATES).tests))

    def test_tests_that_are_no_row_or_too_many(self):
        for tests in NO_ROWS + (GOOD + GOOD[:3], [None] * 17, (("accent", 1),) * 17):
            for states in (STATES, None, (), (None,)):
                self.wrong("tests", None, tests, states)

    def test_wrong_states(self):
        tests = GOOD[:3]
        good = (GOOD_TUPLE, ((), (), 0, False))
        for row in WRONG_TUPLES:
            self.wrong("states", 0, tests, ((row,), good))
            self.wrong("states", 1, tests, (good, good + (row,)))
            self.wrong("states", 0, tests, [[GOOD_TUPLE, row], None])
        for state in NO_ROWS + ((((), (), 0, True),) * 17, GOOD_TUPLE, "ab"):
            self.wrong("states", 0, tests, (state, good))
            self.wrong("states", 1, tests, (good, state))
        self.wrong("states", 0, (), ((((0,), (), 0, True),),))
        self.wrong("states", 1, tests, ((), (((), (), 2, True),)))
        self.assertEqual(2, len(Book(tests, ((((), (), 1, True),), good)).states))

    def test_states_that_are_no_row_or_too_many(self):
        for states in NO_ROWS + ((), [], ((),) * 25, [None] * 25):
            self.wrong("states", None, GOOD, states)
        self.assertEqual(24, len(Book(GOOD, ((),) * 24).states))
        self.assertEqual(16, len(Book(GOOD, ((((0,) * 16, (1,) * 16, 0, True),) * 16,)).states[0]))

    def test_tests_are_told_ahead_of_states(self):
        for states in (None, (), (None,), STATES):
            self.wrong("tests", 2, (GOOD[0], GOOD[1], None), states)
            self.wrong("tests", None, None, states)

    def test_the_error(self):
        self.assert_error_class(BadBook)


class TurnedAndExchanged(Case):
    """[E4] and [E5]."""

    def test_test_by_test(self):
        tests = (
            ("accent", 3), ("begins", 0), ("silent", 1), ("loose", 2), ("leap", 3, -5, 12), ("by", 0, ((1, 0), (-2, 3), (1, 0))),
            ("apart", 0, 1, 7, -9), ("class", 2, 3, (0, 1, 11, 6, 1)), ("lasts", (1, 2), (2, 1)), ("along", 1, 3),
        )
        states = ((((0, 4), (5,), 1, True),), ())
        turned = turned_book(Book(tests, states))
        self.assert_same((
            ("accent", 3), ("begins", 0), ("silent", 1), ("loose", 2), ("leap", 3, -12, 5), ("by", 0, ((-1, 0), (2, -3), (-1, 0))),
            ("apart", 0, 1, 9, -7), ("class", 2, 3, (0, 11, 1, 6, 11)), ("lasts", (1, 2), (2, 1)), ("along", 1, 3),
        ), turned.tests)
        self.assert_same(states, turned.states)
        for order in ((2, 0, 3, 1), [2, 0, 3, 1]):
            exchanged = exchanged_book(Book(tests, states), order)
            self.assert_same((
                ("accent", 3), ("begins", 2), ("silent", 0), ("loose", 3), ("leap", 1, -5, 12), ("by", 2, ((1, 0), (-2, 3), (1, 0))),
                ("apart", 2, 0, 7, -9), ("class", 3, 1, (0, 1, 11, 6, 1)), ("lasts", (1, 2), (2, 1)), ("along", 0, 1),
            ), exchanged.tests)
            self.assert_same(states, exchanged.states)

    def test_twice_is_the_book_itself(self):
        chance = random.Random(65)
        for _ in range(40):
            plain = plainbooks.some_book(chance, 16, 3)
            book = turned_book(turned_book(Book(*plain)))
            self.assert_same(plain, (book.tests, book.states))
            order = chance.sample(range(4), 4)
            book = exchanged_book(exchanged_book(Book(*plain), order), [order.index(v) for v in range(4)])
            self.assert_same(plain, (book.tests, book.states))

    def test_what_they_break(self):
        chance = random.Random(66)
        for _ in range(150):
            rules = plainly.some_rules(chance, chance.randint(1, 10), 40)
            row = plainly.written(rules)[-1]
            score, last = Score(rules), len(rules) - 1
            plain = plainbooks.some_book(chance, 12, 4, 6, moves=plainbooks.moves_of(row))
            book = Book(*plain)
            turned = Score(rules + (("turn", last, plainly.some_tone(chance, 9)),))
            wanted = [n for n, told in enumerate(run(book, columns(turned, 0, turned.count), 0)) if told[1]]
            self.assertEqual(wanted, plainbooks.broken((turned_book(book).tests, book.states), row))
            self.assertEqual(wanted, self.all_broken(score, turned_book(book)))
            part = chance.sample(range(score.voices), score.voices)
            order = part + chance.sample(range(score.voices, 4), 4 - score.voices)
            exchanged = Score(rules + (("voices", last, part),))
            wanted = plainbooks.broken(plain, [plainly.changed_column(column, ("voices", 0, part)) for column in row])
            self.assertEqual(wanted, self.all_broken(score, exchanged_book(book, order)))
            self.assertEqual(wanted, self.all_broken(exchanged, book))

    def all_broken(self, score, book):
        return [broken(score, book, n) for n in range(broken_count(score, book))]

    def test_great_scores(self):
        chance = random.Random(67)
        for _ in range(15):
            rules, _ = plainly.great_rules(chance, chance.choice((10, 58)))
            score, last = Score(rules), len(rules) - 1
            book = Book(*plainbooks.some_book(chance, 14, 6, 8))
            turned = Score(rules + (("turn", last, (1, 7)),))
            part = chance.sample(range(score.voices), score.voices)
            order = part + chance.sample(range(score.voices, 4), 4 - score.voices)
            exchanged = Score(rules + (("voices", last, part),))
            changed = Score(rules + (("raise", last, (3, -1)), ("pace", last + 1, (7, 11))))
            for one, its, other, others in (
                (turned, book, score, turned_book(book)), (exchanged, book, score, exchanged_book(book, order)), (changed, book, score, book),
            ):
                many = broken_count(one, its)
                self.assertEqual(many, broken_count(other, others))
                for number in within({0, 1, many // 2, many - 1}, many):
                    self.assertEqual(broken(one, its, number), broken(other, others, number))


if __name__ == "__main__":
    unittest.main()

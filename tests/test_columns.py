"""Promises [B1] to [B4]: counterheld.columns."""

import random
import unittest

from counterheld.columns import BadColumn, check_bar, exchanged, notes, paced, raised, turned
from tests import plainly
from tests.checks import Case

C4, E4, FAR = (0, 4), (4, 2), (10 ** 30, -10 ** 29)
BAR = (((1, 4), 0, ((C4, True), None)), ((3, 8), 9, ((C4, False), (E4, False))))
GOOD = ((1, 4), 0, ((C4, True), None))
# For each reason columns of two voices that are wrong for it.
WRONG = {
    "column": (
        None, 0, True, "abc", {0: (1, 4), 1: 0, 2: ()}, (), [], ((1, 4),), ((1, 4), 0), [(1, 4), 0], GOOD + (None,), 7,
        list(GOOD) + [0], "1/4 C4 -",
    ),
    "duration": tuple((duration,) + GOOD[1:] for duration in (
        None, 1, "1/4", True, (), (1,), (1, 4, 1), (0, 1), (-1, 4), (1, 0), (1, -4), (-1, -4), (2, 4), (2, 2), (0, 4), (1000, 2),
        (1001, 1), (1, 1001), (1001, 1000), (True, 4), (1, True), (None, 4), (1, None), ("1", 4), ([1], 4), {1: 4, 4: 1}, "14",
    )),
    "accent": tuple((GOOD[0], accent, GOOD[2]) for accent in (
        None, True, False, -1, 10, 100, "0", "", (0,), [], {}, (1, 2),
    )),
    "voices": tuple((GOOD[0], 0, entries) for entries in (
        None, 0, True, "--", "", {}, {0: None, 1: None}, (), [], (None,), [None], (None,) * 3, (None,) * 4, (None,) * 5,
        ((C4, True),) * 3, [None] * 100,
    )),
    "entry": tuple((GOOD[0], 0, (None, entry)) for entry in (
        0, False, True, "", "-", "C4", (), [], (C4,), (C4, True, True), C4, (None, True), (C4, None), (C4, 1), (C4, 0),
        (C4, "True"), ((0,), True), ((0, 4, 0), True), ((0, None), True), ((True, 4), True), ((0, False), True), ("04", True),
        ((1001, 0), True), ((-1001, 0), True), ((0, 1001), False), ((0, -1001), False), ({0: 0, 1: 4}, True), {0: C4, 1: True},
        (0, True), ((0, "4"), True), (((0, 4),), True), ((0, (4,)), True),
    )),
}
REASONS = ("column", "duration", "accent", "voices", "entry")


def as_lists(thing):
    return [as_lists(part) for part in thing] if isinstance(thing, tuple) else thing


class Bars(Case):
    def test_right_ones(self):
        self.assert_answer(BAR, check_bar, BAR)
        self.assert_answer(BAR, check_bar, as_lists(BAR))
        self.assert_answer(BAR, check_bar, [(list(d), a, list(entries)) for d, a, entries in BAR])
        self.assert_answer((((1, 1), 0, (None,)),), check_bar, [[[1, 1], 0, [None]]])

    def test_edges(self):
        for n, d in ((1, 1), (1000, 1), (1, 1000), (1000, 999), (999, 1000)):
            for accent in (0, 1, 9):
                for f, o in ((1000, -1000), (-1000, 1000), (0, 0)):
                    for voices in (1, 2, 3, 4):
                        for many in (1, 2, 63, 64):
                            bar = (((n, d), accent, (((f, o), False),) * voices),) * many
                            self.assert_same(bar, check_bar(as_lists(bar)))
                            self.assert_same(bar, check_bar(bar))

    def test_count(self):
        for thing in (None, True, 0, 3, "", "1/4 C4", {}, {0: GOOD}, (), [], (GOOD,) * 65, [GOOD] * 66, (None,) * 65, [7] * 1000):
            self.assert_raises(BadColumn, {"number": None, "reason": "count"}, check_bar, thing)

    def test_each_reason(self):
        for reason, columns in WRONG.items():
            for column in columns:
                for ahead in (0, 1, 5, 63):
                    wrong = {"number": ahead, "reason": reason}
                    if ahead > 0 or reason != "voices":
                        self.assert_raises(BadColumn, wrong, check_bar, (GOOD,) * ahead + (column,))
                        self.assert_raises(BadColumn, wrong, check_bar, [GOOD] * ahead + [as_lists(column)])

    def test_voices_of_the_first_column(self):
        for entries in (None, 2, "-", {}, (), [], (None,) * 5, [None] * 6):
            self.assert_raises(BadColumn, {"number": 0, "reason": "voices"}, check_bar, (((1, 4), 0, entries),))
        for first in range(1, 5):
            for then in range(1, 5):
                bar = (((1, 4), 0, (None,) * first),) * 2 + (((1, 4), 0, (None,) * then),)
                if first == then:
                    self.assert_answer(bar, check_bar, bar)
                else:
                    self.assert_raises(BadColumn, {"number": 2, "reason": "voices"}, check_bar, bar)

    def test_the_first_wrong_column_counts(self):
        for one in REASONS:
            for other in REASONS:
                bar = (GOOD, WRONG[one][-1], GOOD, WRONG[other][0], None)
                self.assert_raises(BadColumn, {"number": 1, "reason": one}, check_bar, bar)

    def test_the_first_reason_counts(self):
        column = [(2, 4), 10, (7,)]
        right = GOOD
        for place, reason in enumerate(("duration", "accent", "voices")):
            self.assert_raises(BadColumn, {"number": 1, "reason": reason}, check_bar, (GOOD, tuple(column)))
            column[place] = right[place]
        self.assert_answer((GOOD, GOOD), check_bar, (GOOD, tuple(column)))
        self.assert_raises(BadColumn, {"number": 0, "reason": "duration"}, check_bar, ((None, None, None),))
        self.assert_raises(BadColumn, {"number": 0, "reason": "accent"}, check_bar, (((1, 4), None, None),))
        self.assert_raises(BadColumn, {"number": 0, "reason": "column"}, check_bar, ((None, None),))
        self.assert_raises(BadColumn, {"number": 1, "reason": "voices"}, check_bar, (GOOD, ((1, 4), 0, (1, 2, 3))))

    def test_what_was_handed_in_may_be_changed(self):
        bar = as_lists(BAR)
        told = check_bar(bar)
        bar[0][2][0][0][0] = 99
        bar[0][0][0] = 99
        bar.append(None)
        self.assert_same(BAR, told)

    def test_the_error(self):
        self.assert_error_class(BadColumn)


class Changes(Case):
    FUNCTIONS = (("raise", raised), ("turn", turned), ("pace", paced), ("voices", exchanged))

    def check(self, bar, word, function, by):
        wanted = tuple(plainly.changed_column(column, (word, 0, by)) for column in bar)
        self.assert_answer(wanted, function, bar, by)
        self.assert_answer(wanted, function, as_lists(bar), list(by))

    def test_by_numbers(self):
        chance = random.Random(1)
        for _ in range(60):
            voices = chance.randint(1, 4)
            bar = plainly.some_bar(chance, voices, 9)
            numbers = plainly.some_tone(chance, 1000)
            others = (numbers, numbers, plainly.some_fraction(chance, 1000), tuple(chance.sample(range(voices), voices)))
            for (word, function), by in zip(self.FUNCTIONS, others):
                self.check(bar, word, function, by)

    def test_up_to_1000_columns_with_great_numbers(self):
        chance = random.Random(2)
        bar = plainly.some_bar(chance, 4, 1, far=10 ** 40, parts=10 ** 40) * 300
        bar = bar + plainly.some_bar(chance, 4, 1) * (1000 - len(bar))
        self.assertEqual(1000, len(bar))
        others = (FAR, FAR, plainly.some_fraction(chance, 10 ** 40), (2, 0, 3, 1))
        for (word, function), by in zip(self.FUNCTIONS, others):
            self.check(bar, word, function, by)

    def test_some(self):
        bar = (((1, 4), 3, ((C4, True), (E4, False), None)),)
        self.assert_answer((((1, 4), 3, (((1, 3), True), ((5, 1), False), None)),), raised, bar, (1, -1))
        self.assert_answer((((1, 4), 3, ((C4, True), ((-4, 6), False), None)),), turned, bar, (0, 8))
        self.assert_answer((((1, 6), 3, bar[0][2]),), paced, bar, (2, 3))
        self.assert_answer((((1, 4), 3, (None, (C4, True), (E4, False))),), exchanged, bar, (2, 0, 1))
        self.assert_answer((((1, 4), 3, (None, (C4, True), (E4, False))),), exchanged, as_lists(bar), [2, 0, 1])


class Notes(Case):
    def test_some(self):
        q, other = (1, 4), (1, 4)
        rows = (
            (((None,),), ()),
            ((((C4, True),),), ((0, C4, q),)),
            ((((C4, False),),), ((0, C4, q),)),
            ((((C4, True),), ((C4, False),)), ((0, C4, (1, 2)),)),
            ((((C4, False),), ((C4, False),)), ((0, C4, (1, 2)),)),
            ((((C4, True),), ((C4, True),)), ((0, C4, q), (1, C4, q))),
            ((((C4, True),), ((E4, False),)), ((0, C4, q), (1, E4, q))),
            ((((C4, True),), (None,), ((C4, False),)), ((0, C4, q), (2, C4, q))),
            (((None,), ((E4, False),), ((E4, False),), ((C4, False),)), ((1, E4, (1, 2)), (3, C4, q))),
        )
        for entries, wanted in rows:
            bar = tuple((other, 0, entry) for entry in entries)
            self.assert_answer(wanted, notes, bar, 0)
            self.assert_answer(wanted, notes, as_lists(bar), 0)

    def test_each_voice(self):
        chance = random.Random(3)
        for _ in range(200):
            voices = chance.randint(1, 4)
            bar = plainly.some_bar(chance, voices, 20, far=1)
            for voice in range(voices):
                wanted = plainly.notes(bar, voice)
                self.assert_answer(wanted, notes, bar, voice)
                self.assert_answer(wanted, notes, as_lists(bar), voice)

    def test_1000_columns(self):
        chance = random.Random(4)
        bar = plainly.some_bar(chance, 3, 1, parts=3)
        while len(bar) < 1000:
            bar = bar + plainly.some_bar(chance, 3, 20, far=1, parts=3)
        for voice in range(3):
            self.assert_answer(plainly.notes(bar[:1000], voice), notes, bar[:1000], voice)
        held = (((10 ** 40, 3), 0, ((FAR, False),)),) * 1000
        self.assert_answer(((0, FAR, (10 ** 43, 3)),), notes, held, 0)


if __name__ == "__main__":
    unittest.main()

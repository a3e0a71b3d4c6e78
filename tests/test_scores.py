"""Promises [C1] and [0.3]: counterheld.scores."""

import random
import unittest

from counterheld.moments import columns, written
from counterheld.scores import BadScore, Score, TooLong
from tests import plainly
from tests.checks import Case

C4 = (0, 4)
MOST = 10 ** 12
BAR = (((1, 4), 0, ((C4, True), None)), ((1, 8), 1, ((C4, False), ((4, 2), True))))
ONE = (((1, 4), 0, ((C4, True),)),)
NOT_WHOLE = (None, True, False, "1", "", (1,), [], {}, (), "01")


def note(f, o):
    return (((1, 4), 0, (((f, o), True),)),)


class Right(Case):
    RULES = (
        ("bar", BAR), ("then", 0, 0), ("times", 1, 3), ("raise", 2, (1, -1)), ("turn", 3, (0, 8)), ("pace", 4, (2, 3)),
        ("voices", 5, (1, 0)), ("cut", 6, 1, 11), ("then", 0, 7),
    )

    def check(self, score, rules, rows):
        self.assert_same(rules, score.rules)
        self.assertEqual(tuple(len(row) for row in rows), score.counts())
        self.assertIs(tuple, type(score.counts()))
        self.assert_same(len(rows[-1]), score.count)
        self.assert_same(len(rows[-1][0][2]), score.voices)
        total = plainly.moments(rows[-1])[-1]
        self.assert_same((total.numerator, total.denominator), score.duration)

    def test_all_eight_words(self):
        rows = plainly.written(self.RULES)
        for many in range(1, len(self.RULES) + 1):
            self.check(Score(self.RULES[:many]), self.RULES[:many], rows[:many])

    def test_lists(self):
        def lists(thing):
            return [lists(part) for part in thing] if isinstance(thing, tuple) else thing

        handed = lists(self.RULES)
        score = Score(handed)
        self.assert_same(lists(self.RULES), handed)
        rows = plainly.written(self.RULES)
        self.check(score, self.RULES, rows)
        handed[0][1][0][0][0] = 99
        handed[0][1][0][2][0][0][0] = 99
        handed[3][2][0] = 99
        handed[5][2][0] = 99
        handed[6][2].reverse()
        del handed[7:]
        self.check(score, self.RULES, rows)
        self.assert_same(tuple(rows[-1]), written(score))

    def test_some_of_chance(self):
        chance = random.Random(11)
        for _ in range(150):
            rules = plainly.some_rules(chance, chance.randint(1, 20))
            self.check(Score(rules), rules, plainly.written(rules))

    def test_60_rules(self):
        rules = (("bar", BAR),) + tuple(("raise", k, (1, 0)) for k in range(59))
        self.assert_answer(((((1, 4), 0, (((59, 4), True), None))),), columns, Score(rules), 0, 1)

    def test_rules_that_are_not_used(self):
        score = Score((("bar", BAR), ("times", 0, 5), ("bar", BAR[:1])))
        self.assertEqual(((2, 10, 1), 1, (1, 4)), (score.counts(), score.count, score.duration))


class Wrong(Case):
    def assert_wrong(self, number, reason, rules):
        self.assert_raises(BadScore, {"number": number, "reason": reason}, Score, rules)

    def assert_rule(self, reason, *rules, first=(("bar", BAR),)):
        """Each rule is wrong for this reason behind the first ones, whatever stands behind it."""
        for rule in rules:
            self.assert_wrong(len(first), reason, first + (rule,))
            self.assert_wrong(len(first), reason, list(first) + [rule, None, ("bar", ())])
            if isinstance(rule, tuple):
                self.assert_wrong(len(first), reason, list(first) + [list(rule)])

    def test_count(self):
        for rules in (None, True, 0, 5, "", "bar", {}, {0: ("bar", BAR)}, (), []):
            self.assert_wrong(None, "count", rules)
        self.assert_wrong(None, "count", (("bar", BAR),) * 61)
        self.assert_wrong(None, "count", [None] * 61)
        self.assertEqual(2, Score((("bar", BAR),) * 60).count)
        self.assert_wrong(0, "word", [None] * 60)

    def test_word(self):
        self.assert_rule("word", None, True, 7, "bar", "", {}, {0: "bar", 1: BAR}, (), [], ("bar",), ("bar", BAR, 0), ("Bar", BAR))
        self.assert_rule("word", ("then", 0), ("then", 0, 0, 0), ("times", 0), ("times", 0, 1, 1), ("raise", 0), ("turn", 0))
        self.assert_rule("word", ("raise", 0, (0, 0), 0), ("turn", 0, 0, 8), ("pace", 0, 1, 2), ("pace",), ("voices", 0))
        self.assert_rule("word", ("voices", 0, 0, 1), ("cut", 0, 1), ("cut", 0, 0, 1, 1), ("", 0), (None, 0, 0), (0, 0, 0))
        self.assert_rule("word", (("then",), 0, 0), (["then"], 0, 0), ({}, 0, 0), ("thens", 0, 0), (" then", 0, 0), ("back", 0))
        self.assert_rule("word", ("then", None), ("cut", None, None), ("repeat", 0, 1))
        self.assert_wrong(0, "word", (None,))
        self.assert_wrong(0, "word", [("them", 0, 0)])

    def test_rule(self):
        for i in NOT_WHOLE + (-1, 1, 2, 10 ** 30):
            self.assert_rule("rule", ("then", i, 0), ("then", 0, i), ("then", i, None), ("times", i, 0), ("raise", i, None))
            self.assert_rule("rule", ("turn", i, (0, 8)), ("pace", i, (1, 1)), ("voices", i, (0, 1)), ("cut", i, 0, 1))
        for word, *rest in (("then", 0), ("times", 1), ("raise", (0, 0)), ("pace", (1, 1)), ("cut", 0, 1)):
            self.assert_wrong(0, "rule", ((word, 0, *rest),))
        self.assert_rule("rule", ("then", 0, 2), ("then", 2, 1), ("then", 0, 3), first=(("bar", BAR), ("then", 0, 0)))

    def test_bar(self):
        good = BAR[0]
        self.assert_rule("bar", *[("bar", columns) for columns in (
            None, True, 0, "", "1/4 C4 C4", {}, (), [], (None,), (good,) * 65, (good, None), (((2, 4), 0, good[2]),),
            (((1, 4), 10, good[2]),), (((1, 4), 0, (None, 0)),), (((1, 4), 0, ()),), (((1, 4), 0, (None,) * 5),),
            (((1, 4), 0, (None, ((1001, 0), True))),), (good, ((1, 4), 0, (None,))), (((1, 4), 0, (None,)), good),
        )])
        self.assert_wrong(0, "bar", (("bar", ()),))

    def test_voices(self):
        for first in range(1, 5):
            rules = (("bar", (((1, 4), 0, (None,) * first),)),)
            for other in range(1, 5):
                if other != first:
                    self.assert_rule("voices", ("bar", (((1, 4), 0, (None,) * other),)), first=rules)
            orders = [None, True, 0, "", "01", {}, (), [], tuple(range(first + 1)), tuple(range(first - 1)), (1,) * first]
            orders += [(-1,) + tuple(range(1, first)), tuple(range(1, first + 1)), (True,) + tuple(range(1, first)), (None,) * first]
            orders += ["0123"[:first], {v: v for v in range(first)}, tuple(range(first - 1)) + (False,), (0,) * first if first > 1 else (5,)]
            self.assert_rule("voices", *[("voices", 0, order) for order in orders], first=rules)
            self.assertEqual(first, Score(rules + (("voices", 0, list(range(first))[::-1]),)).voices)
        self.assert_rule("voices", ("voices", 0, (True, 0)), ("voices", 0, (1, False)), ("voices", 0, ((0,), 1)))

    def test_times(self):
        self.assert_rule("times", *[("times", 0, k) for k in NOT_WHOLE + (0, -1, MOST + 1, 10 ** 30)])
        self.assertEqual(MOST, Score((("bar", ONE), ("times", 0, MOST))).count)
        self.assertEqual(2, Score((("bar", BAR), ("times", 0, 1))).count)

    def test_interval(self):
        beyond = ((1001, 0), (-1001, 0), (0, 1001), (0, -1001), (True, 0), (0, False), (0,), (0, 0, 0), (None, 0), (0, "1"), 5)
        for word in ("raise", "turn"):
            self.assert_rule("interval", *[(word, 0, by) for by in NOT_WHOLE + beyond + ("P5", "C4", {0: 0, 1: 0}, ((0,), 0))])

    def test_pace(self):
        bad = (
            (0, 1), (-1, 2), (1, 0), (1, -2), (2, 4), (2, 2), (1001, 1), (1, 1001), (True, 2), (1, True), (1,), (1, 2, 3), "1/2", 1,
            (None, 1), {1: 1, 0: 1}, ((1,), 2),
        )
        self.assert_rule("pace", *[("pace", 0, by) for by in NOT_WHOLE + bad])
        for by in ((1, 1), (1000, 1), (1, 1000), (1000, 999)):
            self.assertEqual(by, Score((("bar", (((1, 1), 0, (None,)),)), ("pace", 0, by))).duration)

    def test_cut(self):
        for wrong in NOT_WHOLE + (-1, -2):
            self.assert_rule("cut", ("cut", 0, wrong, 2), ("cut", 0, 0, wrong), ("cut", 0, wrong, wrong))
        self.assert_rule("cut", ("cut", 0, 0, 0), ("cut", 0, 1, 1), ("cut", 0, 2, 2), ("cut", 0, 1, 0), ("cut", 0, 0, 3))
        self.assert_rule("cut", ("cut", 0, 2, 3), ("cut", 0, 0, 10 ** 30), ("cut", 0, 10 ** 30, 10 ** 30 + 1))
        self.assert_rule("cut", ("cut", 1, 0, 2), ("cut", 2, 0, 2), first=(("bar", BAR), ("cut", 0, 1, 2), ("raise", 1, (1, 0))))

    def test_too_many_columns(self):
        million = (("bar", ONE), ("times", 0, 10 ** 6))
        self.assertEqual(MOST, Score(million + (("times", 1, 10 ** 6),)).count)
        self.assert_rule("large", ("times", 1, 10 ** 6 + 1), ("times", 1, MOST), first=million)
        half = (("bar", ONE), ("times", 0, MOST // 2))
        self.assertEqual(MOST, Score(half + (("then", 1, 1),)).count)
        most = half + (("then", 1, 1),)
        self.assert_rule("large", ("then", 2, 0), ("then", 0, 2), ("then", 2, 2), ("times", 2, 2), first=most)
        self.assertEqual(MOST, Score(most + (("raise", 2, (1, 1)), ("then", 0, 0), ("cut", 2, 0, MOST))).count)
        odd = (("bar", BAR + BAR[:1]), ("times", 0, (MOST - 1) // 3))
        self.assertEqual(MOST - 1, Score(odd).count)
        self.assert_rule("large", ("times", 0, (MOST - 1) // 3 + 1), first=odd)

    def test_tones_just_there_and_beyond(self):
        for f, o in ((1000, 0), (-1000, 0), (0, 1000), (0, -1000), (1000, -1000)):
            near = (("bar", note(f - f // 500, o - o // 500)),)
            for step in ((f // 500, o // 500), (f // 1000, o // 1000)):
                self.assertEqual(1, Score(near + (("raise", 0, step),)).count)
            self.assertEqual(1, Score((("bar", note(f, o)),)).count)
            sign = ((f > 0) - (f < 0), (o > 0) - (o < 0))
            self.assert_rule("large", ("raise", 0, sign), first=(("bar", note(f, o)),))
            self.assert_rule("large", ("turn", 0, (-sign[0], -sign[1])), first=(("bar", note(f, o)),))
            self.assertEqual(1, Score((("bar", note(f, o)), ("turn", 0, (0, 0)), ("raise", 0, (-sign[0], -sign[1])))).count)
            self.assertEqual(1, Score((("bar", note(f, o)), ("turn", 0, sign))).count)

    def test_tones_beyond_by_both_sides(self):
        wide = (("bar", note(-600, 300) + note(600, -500)),)
        self.assert_rule("large", ("raise", 0, (401, 0)), ("raise", 0, (-401, 0)), first=wide)
        self.assert_rule("large", ("raise", 0, (0, 701)), ("raise", 0, (0, -501)), first=wide)
        self.assert_rule("large", ("turn", 0, (401, 0)), ("turn", 0, (-401, 0)), first=wide)
        self.assert_rule("large", ("turn", 0, (0, 501)), ("turn", 0, (0, -701)), first=wide)
        for word, by in (
            ("raise", (400, 0)), ("raise", (-400, 0)), ("raise", (0, 700)), ("raise", (0, -500)),
            ("turn", (400, 0)), ("turn", (-400, 0)), ("turn", (0, 500)), ("turn", (0, -700)),
        ):
            self.assertEqual(2, Score(wide + ((word, 0, by),)).count)

    def test_far_tones_by_way_of_other_rules(self):
        rules = (
            ("bar", note(0, 0)), ("bar", note(900, 0)), ("then", 0, 1), ("times", 2, 10 ** 9), ("pace", 3, (1, 2)),
            ("voices", 4, (0,)),
        )
        for i in range(1, 6):
            self.assert_rule("large", ("raise", i, (101, 0)), ("turn", i, (-101, 0)), first=rules)
            self.assertEqual(7, len(Score(rules + (("raise", i, (100, 0)),)).rules))
        self.assert_wrong(6, "large", rules + (("raise", 5, (101, 0)), ("bar", note(0, 0))))

    def test_a_cut_leaves_far_tones_out(self):
        rules = (("bar", note(0, 0)), ("times", 0, 10 ** 9), ("bar", note(900, 0)), ("then", 1, 2), ("times", 3, 100))
        size = 10 ** 9 + 1
        for first, stop in ((0, size - 1), (size, 2 * size - 1), (5 * size + 7, 6 * size - 1), (7, 8)):
            near = rules + (("cut", 4, first, stop),)
            self.assertEqual(stop - first, Score(near + (("raise", 5, (1000, 0)),)).count)
            self.assert_rule("large", ("raise", 5, (1001 - 900, 0)), first=rules + (("cut", 4, first, stop + 1 + 7 * (stop < 9) * size),))
        # Cut again and again, until only what is near is left.
        near = rules + (("cut", 4, 3, 3 * size), ("cut", 5, 5, 2 * size), ("cut", 6, 6, size - 9))
        self.assertEqual(size - 15, Score(near + (("raise", 7, (-1000, 0)),)).count)
        self.assert_rule("large", ("raise", 6, (101, 0)), first=near)
        self.assert_rule("large", ("raise", 8, (101, 0)), first=near + (("cut", 6, 6, size),))

    def test_silence_has_no_tones(self):
        rules = [("bar", (((1, 4), 0, (None,)),))] + [("raise", k, (1000, -1000)) for k in range(30)] + [("turn", 30, (1000, 1000))]
        self.assertEqual(1, Score(rules).count)
        self.assertEqual(2, Score(rules + [("bar", note(1000, 0)), ("then", 31, 32)]).count)
        self.assert_rule("large", ("raise", 33, (1, 0)), ("turn", 33, (-1, 0)), first=tuple(rules + [("bar", note(1000, 0)), ("then", 32, 31)]))

    def test_the_first_wrong_rule_counts(self):
        wrong = {
            "word": ("them", 0, 0), "rule": ("then", 0, 9), "bar": ("bar", ()), "voices": ("voices", 0, (0,)), "times": ("times", 0, 0),
            "interval": ("raise", 0, 0), "pace": ("pace", 0, (2, 2)), "cut": ("cut", 0, 1, 1), "large": ("times", 0, MOST),
        }
        for one, rule in wrong.items():
            for other in wrong.values():
                self.assert_wrong(2, one, (("bar", BAR), ("times", 0, 2), rule, other))

    def test_the_first_reason_counts(self):
        first = (("bar", BAR), ("times", 0, MOST // 2))
        self.assert_rule("word", ("times", 9, 0, 0), ("voices", 9, None, None), first=first)
        self.assert_rule("rule", ("times", 9, 0), ("voices", 2, None), ("cut", -1, 5, 1), ("pace", 2, 0), first=first)
        self.assert_rule("times", ("times", 1, 10 ** 13), first=first)
        self.assert_rule("bar", ("bar", (((1, 4), 0, (None,)), ((1, 4), 0, (0,)))), first=first)
        self.assert_rule("large", ("times", 1, 2), ("then", 1, 0), first=first)

    def test_the_errors(self):
        self.assert_error_class(BadScore)
        self.assert_error_class(TooLong)


class Reach(Case):
    """The tones of rules against what is written out: the least raise that is refused tells them."""

    def test_of_chance(self):
        chance = random.Random(12)
        for _ in range(60):
            rules = plainly.some_rules(chance, 14)
            rows = plainly.written(rules)
            for number in range(len(rules)):
                tones = [entry[0] for _, _, entries in rows[number] for entry in entries if entry is not None]
                if not tones:
                    continue
                high = max(f for f, _ in tones)
                low = min(o for _, o in tones)
                for by, right in (((1000 - high, 0), True), ((1001 - high, 0), False), ((0, -1000 - low), True), ((0, -1001 - low), False)):
                    if max(abs(by[0]), abs(by[1])) > 1000:
                        continue
                    if right:
                        self.assertEqual(len(rows[number]), Score(rules + (("raise", number, by),)).count)
                    else:
                        wrong = {"number": len(rules), "reason": "large"}
                        self.assert_raises(BadScore, wrong, Score, rules + (("raise", number, by),))


if __name__ == "__main__":
    unittest.main()

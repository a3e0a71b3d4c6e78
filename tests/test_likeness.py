"""Promises [N6] to [N9]: counterheld.likeness."""

import random
import unittest

from counterheld.alike import bridges_between
from counterheld.bartexts import read_bar
from counterheld.bridges import BadBridge
from counterheld.likeness import likeness_paper, shows_alike
from counterheld.scores import BadScore, Score
from tests import plainlikeness, plainly
from tests.checks import Case
from tests.plainlikeness import PlainLikeJudge, bring, brought_rules, put_behind, some_bridge, some_columns, some_rules, uneven_rules
from tests.plainpapers import changed_within, deep, some_wrong
from tests.test_same_columns import others

VOICES = (0, 1)
P, U, D, T = (1, VOICES, (0, 0), (1, 1)), (1, VOICES, (1, 0), (1, 1)), (1, VOICES, (-1, 0), (1, 1)), (-1, VOICES, (0, 8), (1, 1))
RULES = (("bar", read_bar("1/4 C4 C3 | 1/8!1 E4 ~C3")), ("raise", 0, (1, 0)), ("then", 0, 1), ("times", 2, 3), ("turn", 3, (0, 8)))
SCORE, ONE = Score(RULES), Score(RULES[:4])
PAPER = (
    (0, 0, 4, 0, 2, P, ("bar",)), (5, 0, 4, 0, 2, D, ("made",)),
    (1, 0, 0, 0, 2, D, ("made",)), (1, 0, 4, 0, 2, D, ("through", 2, 0)),
    (4, 0, 5, 0, 2, U, ("back", 1)), (1, 0, 5, 0, 2, P, ("through", 3, 4)),
    (2, 0, 0, 0, 2, P, ("made",)), (2, 0, 4, 0, 2, P, ("through", 6, 0)),
    (6, 0, 4, 0, 2, P, ("made",)), (4, 0, 6, 0, 2, P, ("back", 8)),
    (2, 0, 6, 0, 2, P, ("through", 7, 9)), (2, 2, 1, 0, 2, P, ("made",)),
    (2, 2, 5, 0, 2, P, ("through", 11, 5)), (6, 2, 5, 0, 2, P, ("made",)),
    (5, 0, 6, 2, 2, P, ("back", 13)), (2, 2, 6, 2, 2, P, ("through", 12, 14)),
    (2, 0, 6, 0, 4, P, ("join", 10, 15)), (3, 0, 2, 0, 4, P, ("made",)),
    (3, 0, 6, 0, 4, P, ("through", 17, 16)), (7, 0, 6, 0, 4, P, ("made",)),
    (6, 0, 7, 0, 4, P, ("back", 19)), (3, 0, 7, 0, 4, P, ("through", 18, 20)),
    (3, 0, 3, 4, 8, P, ("same",)), (7, 0, 7, 4, 8, P, ("same",)),
    (3, 0, 7, 0, 12, P, ("round", 22, 23, 21)), (8, 0, 7, 0, 12, T, ("made",)),
    (7, 0, 8, 0, 12, T, ("back", 25)), (3, 0, 8, 0, 12, T, ("through", 24, 26)),
)


def view_below(rule, view):
    sign, order = view
    if rule[0] == "turn":
        return (-sign, order)
    return (sign, tuple(rule[2][v] for v in order)) if rule[0] == "voices" else view


def views_of(rules, view):
    """The views in which some rule is seen on the ways of "within" from the last rule on."""
    seen = {number: set() for number in range(len(rules))}
    seen[len(rules) - 1].add(view)
    for number in range(len(rules) - 1, -1, -1):
        for told in list(seen[number]):
            for i in rules[number][1:{"bar": 1, "then": 3}.get(rules[number][0], 2)]:
                seen[i].add(view_below(rules[number], told))
    return set().union(*seen.values())


def most_rows(one, other, bridge):
    rules = one.rules + other.rules
    cuts = len([rule for rule in rules if rule[0] == "cut"])
    views = len(views_of(one.rules, bridge[:2])) + len(views_of(other.rules, (1, tuple(range(other.voices)))))
    return 50000 * len(rules) * views * (cuts + 1)


class Told(Case):
    """Papers that the program tells."""

    def check(self, one, other, bridge, judge=None):
        paper = likeness_paper(one, other, bridge)
        self.assertIsNotNone(paper)
        self.assertLessEqual(len(paper), most_rows(one, other, bridge))
        self.assertEqual(paper, likeness_paper(one, other, bridge))
        self.assertIs(True, shows_alike(one, other, bridge, paper))
        if judge is not None:
            self.assertTrue(judge.shows(bridge, paper))
        return paper

    def test_few_columns(self):
        chance = random.Random(341)
        met = 0
        for _ in range(120):
            voices = chance.choice((1, 2, 2, 3, 4))
            rules = some_rules(chance, chance.randint(1, 9), 40, voices)
            one, row = Score(rules), plainly.written(rules)[-1]
            bridge = some_bridge(chance, voices)
            told = [bring(column, bridge) for column in row]
            middle = chance.randint(1, len(told))
            more = [("bar", tuple(told[:middle]))]
            if middle < len(told):
                more += [("bar", tuple(told[middle:])), ("then", 0, 1)]
            for made in (tuple(more), brought_rules(rules, bridge)):
                other, judge = Score(made), PlainLikeJudge(rules, made)
                for sign in (1, -1):
                    for order in {tuple(range(voices)), bridge[1], tuple(range(voices))[::-1]}:
                        wanted = plainlikeness.bridge_in(row, told, sign, order)
                        if wanted is not None:
                            met += 1
                            self.check(one, other, wanted, judge)
                            for wrong in ((sign, order, (wanted[2][0] + 1, wanted[2][1]), wanted[3]), wanted[:3] + ((wanted[3][0], wanted[3][1] * 1009),)):
                                if [bring(column, wrong) for column in row] != told:
                                    self.assert_answer(None, likeness_paper, one, other, wrong)
                        else:
                            self.assert_answer(None, likeness_paper, one, other, (sign, order) + bridge[2:])
        self.assertGreater(met, 150)

    def test_other_rules(self):
        chance = random.Random(342)
        for _ in range(25):
            voices = chance.choice((1, 2, 3))
            rules = some_rules(chance, chance.randint(1, 12), 150, voices)
            one = Score(rules)
            plain = (1, tuple(range(voices)), (0, 0), (1, 1))
            for other in others(chance, rules):
                self.check(one, other, plain, PlainLikeJudge(one.rules, other.rules))

    def test_no_voice_sounds(self):
        chance = random.Random(343)
        for _ in range(30):
            voices = chance.randint(1, 3)
            rules = (("bar", some_columns(chance, 3, voices, silent=1)), ("times", 0, 5), ("raise", 1, (2, 1)), ("then", 0, 2), ("turn", 3, (0, 8)))
            bridge = some_bridge(chance, voices)
            bridge = bridge[:2] + ((chance.randint(-9, 9), 10 ** 20),) + bridge[3:]
            made = brought_rules(rules, bridge[:2] + ((1, 1),) + bridge[3:])
            self.check(Score(rules), Score(made), bridge, PlainLikeJudge(rules, made))

    def test_partly_silent(self):
        """Silent columns within, so that rows about them hold by many intervals."""
        chance = random.Random(344)
        for _ in range(40):
            voices = chance.randint(1, 2)
            rules = [("bar", some_columns(chance, 3, voices, 1, 0.8)), ("bar", some_columns(chance, 4, voices, silent=1)), ("times", 1, 20)]
            rules += [("then", 2, 0), ("raise", 3, (1, 1)), ("then", 3, 4), ("turn", 5, (2, 3)), ("then", 5, 6), ("times", 7, 2)]
            bridge = some_bridge(chance, voices)
            made = (("pace", len(rules) - 1, (1, 1)),) + (("cut", len(rules) - 1, 0, 30), ("cut", len(rules) - 1, 30, Score(rules).count))
            made = brought_rules(tuple(rules) + made + (("then", len(rules) + 1, len(rules) + 2),), bridge)
            self.check(Score(rules), Score(made), bridge, PlainLikeJudge(rules, made))

    def test_copies(self):
        """Runs of copies of unlike lengths, which only "round" can show in few rows."""
        chance = random.Random(345)
        for _ in range(15):
            bar = some_columns(chance, chance.randint(1, 5), 2)
            for times in (1, 10 ** 9):
                one = Score((("bar", bar), ("times", 0, 60 * times)))
                for more in (
                    (("times", 0, 60), ("times", 1, times)), (("times", 0, times), ("times", 1, 60)),
                    (("then", 0, 0), ("then", 1, 0), ("times", 2, 20 * times)), (("times", 0, 7), ("times", 1, 9 * times), ("cut", 2, 3 * len(bar), (60 * times + 3) * len(bar))),
                ):
                    made = (("bar", bar),) + more
                    judge = PlainLikeJudge(one.rules, made) if times == 1 else None
                    self.check(one, Score(made), P, judge)
                    self.check(Score(made), one, P)

    def test_great_scores(self):
        chance = random.Random(346)
        done = 0
        while done < 12:
            voices = chance.randint(1, 3)
            bar = some_columns(chance, chance.randint(1, 8), voices)
            rules = uneven_rules(chance, bar, chance.choice((15, 40)), 10 ** 11)
            bridge = some_bridge(chance, voices)
            try:
                one = Score(rules)
                other = Score(brought_rules(chance.choice(others(chance, rules)).rules, bridge))
            except (BadScore, IndexError):
                continue
            paper = self.check(one, other, bridge)
            self.check(other, one, bridges_between(other, one)[0])
            self.assert_answer(None, likeness_paper, one, other, bridge[:3] + ((10 ** 9 + 7, 10 ** 9),))
            self.assert_answer(False, shows_alike, one, other, bridge[:3] + ((10 ** 9 + 7, 10 ** 9),), paper)
            done += 1

    def test_scores_that_are_unlike(self):
        short = Score(RULES[:3])
        self.assert_answer(None, likeness_paper, ONE, short, P)
        self.assert_answer(None, likeness_paper, ONE, SCORE, P)
        single = Score((("bar", (((1, 4), 0, (None,)),) * 4), ("times", 0, 3)))
        self.assert_answer(None, likeness_paper, ONE, single, P)
        self.assert_answer(None, likeness_paper, single, ONE, (1, (0,), (0, 0), (1, 1)))


class Example(Case):
    def test_paper(self):
        self.assert_answer((T,), bridges_between, ONE, SCORE)
        self.assert_answer(True, shows_alike, ONE, SCORE, T, PAPER)
        self.assertTrue(PlainLikeJudge(ONE.rules, SCORE.rules).shows(T, PAPER))
        for bridge in (P, U, D):
            self.assert_answer(False, shows_alike, ONE, SCORE, bridge, PAPER)
        self.assert_answer(False, shows_alike, SCORE, ONE, T, PAPER)
        self.assert_answer(True, shows_alike, ONE, SCORE, [-1, [0, 1], [0, 8], [1, 1]], PAPER)

    def test_a_row_more_or_less(self):
        for at in range(len(PAPER)):
            # Each row of this paper is needed.
            self.assert_answer(False, shows_alike, ONE, SCORE, T, PAPER[:at] + PAPER[at + 1:])
            if at + 1 < len(PAPER):
                told = PAPER[:at] + (PAPER[at + 1], PAPER[at]) + PAPER[at + 2:]
                wanted = PlainLikeJudge(ONE.rules, SCORE.rules).shows(T, told)
                self.assert_answer(wanted, shows_alike, ONE, SCORE, T, told)
        more = ((4, 1, 4, 1, 1, P, ("same",)),)
        self.assert_answer(True, shows_alike, ONE, SCORE, T, PAPER[:-1] + more + PAPER[-1:])
        self.assert_answer(True, shows_alike, ONE, SCORE, T, PAPER * 1 + PAPER[-1:])
        self.assert_answer(False, shows_alike, ONE, SCORE, T, PAPER + more)


class Judged(Case):
    """The judge against the plain one."""

    def test_changed_papers(self):
        chance = random.Random(347)
        shown = 0
        judge = PlainLikeJudge(ONE.rules, SCORE.rules)
        papers = [PAPER, likeness_paper(ONE, SCORE, T)]
        for _ in range(1500):
            paper = changed_within(chance, chance.choice(papers))
            wanted = judge.shows(T, paper)
            shown += wanted
            self.assert_same(wanted, shows_alike(ONE, SCORE, T, paper))
        self.assertGreater(shown, 3)

    def test_one_thing_in_one_row(self):
        chance = random.Random(348)
        for _ in range(25):
            voices = chance.choice((1, 2, 3))
            rules = some_rules(chance, chance.randint(2, 9), 40, voices)
            bridge = some_bridge(chance, voices)
            made = brought_rules(rules, bridge)
            one, other, judge = Score(rules), Score(made), PlainLikeJudge(rules, made)
            paper = likeness_paper(one, other, bridge)
            for _ in range(30):
                row, at = chance.randrange(len(paper)), chance.randrange(7)
                told = list(paper[row])
                if at < 5:
                    told[at] += chance.choice((1, -1))
                elif at == 5:
                    told[5] = chance.choice((some_bridge(chance, voices), put_behind(told[5], some_bridge(chance, voices))))
                elif len(told[6]) > 1:
                    place = chance.randrange(1, len(told[6]))
                    told[6] = told[6][:place] + (max(0, told[6][place] + chance.choice((1, -1))),) + told[6][place + 1:]
                else:
                    told[6] = (chance.choice(("bar", "same", "made")),)
                changed = paper[:row] + (tuple(told),) + paper[row + 1:]
                self.assert_same(judge.shows(bridge, changed), shows_alike(one, other, bridge, changed))

    def test_each_reason(self):
        """Rows alone: each word taken where it is rightly given, and refused where one thing is changed."""
        chance = random.Random(349)
        bar = (((1, 4), 0, (((0, 4), True), None)), ((1, 4), 0, (None, None)), ((1, 2), 0, (None, None)), ((1, 4), 0, (((0, 4), True), None)))
        rules = (("bar", bar), ("times", 0, 4), ("cut", 1, 1, 3), ("voices", 1, (1, 0)), ("pace", 3, (2, 1)), ("then", 1, 1))
        made = (("bar", bar), ("times", 0, 8))
        one, other, judge = Score(rules), Score(made), PlainLikeJudge(rules, made)
        base = (
            (0, 1, 0, 2, 1, (1, (0, 1), (0, 0), (2, 1)), ("bar",)), (1, 2, 1, 10, 5, P, ("same",)), (5, 17, 1, 1, 9, P, ("made",)),
            (2, 0, 1, 1, 2, P, ("made",)), (2, 0, 1, 1, 2, (1, (0, 1), (5, -5), (1, 1)), ("mute", 3)), (1, 4, 1, 12, 2, P, ("part", 1)),
            (1, 6, 1, 14, 1, P, ("part", 1)), (1, 4, 1, 12, 3, P, ("join", 5, 6)), (1, 10, 1, 2, 5, P, ("back", 1)), (1, 2, 1, 2, 5, P, ("through", 1, 8)),
            (4, 3, 3, 3, 6, (1, (0, 1), (0, 0), (1, 2)), ("made",)), (3, 3, 1, 3, 6, (1, (1, 0), (0, 0), (1, 1)), ("made",)),
            (4, 3, 1, 3, 6, (1, (1, 0), (0, 0), (1, 2)), ("through", 10, 11)), (0, 0, 6, 0, 4, P, ("bar",)), (1, 0, 0, 0, 4, P, ("made",)),
            (7, 0, 6, 0, 4, P, ("made",)), (6, 0, 7, 0, 4, P, ("back", 15)), (1, 0, 6, 0, 4, P, ("through", 14, 13)), (1, 0, 7, 0, 4, P, ("through", 17, 16)),
            (1, 0, 1, 4, 12, P, ("same",)), (7, 0, 7, 4, 12, P, ("same",)), (1, 0, 7, 0, 16, P, ("round", 19, 20, 18)),
            (7, 0, 7, 16, 16, P, ("same",)), (1, 0, 7, 16, 16, P, ("through", 21, 22)), (5, 0, 1, 0, 16, P, ("made",)), (5, 16, 1, 0, 16, P, ("made",)),
            (5, 0, 7, 0, 16, P, ("through", 24, 21)), (5, 16, 7, 16, 16, P, ("through", 25, 23)), (5, 0, 7, 0, 32, P, ("join", 26, 27)),
        )
        self.assertTrue(judge.shows(P, base))
        self.assert_answer(True, shows_alike, one, other, P, base)
        taken = 0
        for _ in range(4000):
            at = chance.randrange(len(base))
            row = list(base[at])
            part = chance.randrange(7)
            if part < 5:
                row[part] += chance.choice((1, -1, 4, -4))
            elif part == 5:
                row[5] = chance.choice((P, U, T, (1, (1, 0), (0, 0), (1, 1)), (1, (0, 1), (0, 0), (2, 1)), (-1, (0, 1), (0, 0), (1, 1))))
            else:
                reason = chance.choice(base)[6]
                row[6] = reason[:1] + tuple(chance.randrange(len(base)) for _ in reason[1:])
            changed = base[:at] + (tuple(row),) + base[at + 1:]
            wanted = judge.shows(P, changed)
            taken += wanted
            self.assert_same(wanted, shows_alike(one, other, P, changed))
        self.assertGreater(taken, 30)

    def test_wrong_forms(self):
        things = (None, True, False, 0, 1, "", "abc", (), [], {}, {0: 1}, ((),), (None,), [PAPER[0]], deep(44), (deep(43),), list(PAPER), PAPER[:0])
        for thing in things:
            self.assert_answer(False, shows_alike, ONE, SCORE, T, thing)
            self.assert_answer(False, shows_alike, ONE, SCORE, thing, PAPER)
        single = Score((("bar", (((1, 4), 0, (None,)),)),))
        self.assert_answer(False, shows_alike, ONE, single, T, PAPER)
        self.assert_answer(False, shows_alike, single, ONE, (1, (0,), (0, 0), (1, 1)), PAPER)
        chance = random.Random(350)
        for _ in range(600):
            at, part = chance.randrange(len(PAPER)), chance.randrange(7)
            row = PAPER[at]
            for wrong in (some_wrong(chance, row[part]), None, "bar", [row[part]], True, False, deep(40)):
                changed = PAPER[:at] + (row[:part] + (wrong,) + row[part + 1:],) + PAPER[at + 1:]
                if wrong != row[part] or type(wrong) is bool:
                    self.assertIs(False, shows_alike(ONE, SCORE, T, changed), (at, part, wrong))
        for at, row in enumerate(PAPER):
            for told in (list(row), row[:6], row + (0,), row[:6] + (list(row[6]),), row[:5] + (list(row[5]),) + row[6:], row[:6] + (row[6] + (0,),), row[:6] + (row[6][:-1],)):
                self.assertIs(False, shows_alike(ONE, SCORE, T, PAPER[:at] + (told,) + PAPER[at + 1:]))
            for place in range(7):
                if row[place] in (0, 1) and type(row[place]) is int:
                    told = row[:place] + (bool(row[place]),) + row[place + 1:]
                    self.assertIs(False, shows_alike(ONE, SCORE, T, PAPER[:at] + (told,) + PAPER[at + 1:]))

    def test_bridges(self):
        for bridge in (None, True, 0, "", (), {}, deep(44), (1, (0,), (0, 0), (1, 1)), (0, (0, 1), (0, 0), (1, 1)), (1, (0, 1), (0, 0), (2, 2))):
            self.assert_raises(BadBridge, {}, likeness_paper, ONE, SCORE, bridge)
            self.assert_answer(False, shows_alike, ONE, SCORE, bridge, PAPER)


if __name__ == "__main__":
    unittest.main()

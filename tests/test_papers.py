"""Promises [G1] to [G4]: counterheld.papers."""

import random
import unittest
from itertools import permutations

from counterheld.books import Book
from counterheld.broken import broken_count
from counterheld.moments import NoColumn
from counterheld.papers import paper_of, shows, table_of
from counterheld.scores import BadScore, Score
from tests import plainbooks, plainly
from tests.checks import Case
from tests.plainpapers import Written, changed_within, deep

MOST = 10 ** 12
MOST_ROWS = 10 ** 6
C = (0, 4)
ANYTHING = (None, True, False, 0, 1, -1, 10 ** 40, "", "join", (), [], {}, {0: 1}, ((),), [()], (None,), (0,), deep(44), (deep(43),), ((deep(42),) * 6,))


def bar(*accents):
    return tuple(((1, 4), accent, ((C, True),)) for accent in accents)


def some_view(chance, voices):
    return (chance.choice((1, -1)), tuple(chance.sample(range(voices), voices)))


def views_of(score):
    """How many views are met on the ways of "within" from the last rule in the plain view."""
    todo = [(len(score.rules) - 1, 1, tuple(range(score.voices)))]
    met = set(todo)
    while todo:
        number, sign, order = todo.pop()
        rule = score.rules[number]
        if rule[0] == "turn":
            sign = -sign
        if rule[0] == "voices":
            order = tuple(rule[2][v] for v in order)
        for i in () if rule[0] == "bar" else rule[1:3] if rule[0] == "then" else rule[1:2]:
            if (i, sign, order) not in met:
                met.add((i, sign, order))
                todo.append((i, sign, order))
    return len({way[1:] for way in met})


def most_rows(score):
    cuts = sum(rule[0] == "cut" for rule in score.rules)
    return 300 * len(score.rules) * views_of(score) * (cuts + 1)


class Example(Case):
    V, W = (-1, (0, 1)), (1, (0, 1))
    PAPER = (
        (0, 0, 2, V, ((0, 1),), ("bar",)),
        (2, 0, 2, V, ((0, 1),), ("within", 0)),
        (1, 0, 2, V, ((0, 1),), ("within", 0)),
        (2, 2, 4, V, ((0, 1),), ("within", 2)),
        (2, 0, 4, V, ((0, 2),), ("join", 1, 3)),
        (3, 0, 4, V, ((0, 2),), ("within", 4)),
        (3, 4, 8, V, ((0, 2),), ("again", 5)),
        (3, 0, 8, V, ((0, 4),), ("join", 5, 6)),
        (3, 4, 12, V, ((0, 4),), ("again", 7)),
        (3, 0, 12, V, ((0, 6),), ("join", 5, 8)),
        (4, 0, 12, W, ((0, 6),), ("within", 9)),
    )

    def setUp(self):
        from counterheld.bartexts import read_bar

        self.rules = (("bar", read_bar("1/4 C4 C3 | 1/8!1 E4 ~C3")), ("raise", 0, (1, 0)), ("then", 0, 1), ("times", 2, 3), ("turn", 3, (0, 8)))
        self.plain = (("leap", 0, -12, -1), ("accent", 1)), ((((0, 1), (), 0, True),),)
        self.score, self.book = Score(self.rules), Book(*self.plain)

    def test_of_the_document(self):
        self.assert_answer(True, shows, self.score, self.book, self.PAPER, 6)
        for number in (5, 7, 0, 12, -6, None, True, "6", (6,), [6], 10 ** 40):
            self.assert_answer(False, shows, self.score, self.book, self.PAPER, number)

    def test_every_row_left_out_and_two_exchanged(self):
        for k in range(11):
            self.assert_answer(False, shows, self.score, self.book, self.PAPER[:k] + self.PAPER[k + 1:], 6)
            for m in range(k):
                rows = list(self.PAPER)
                rows[k], rows[m] = rows[m], rows[k]
                self.assert_answer(Written(self.rules, self.plain).shows(tuple(rows), 6), shows, self.score, self.book, tuple(rows), 6)
        self.assert_answer(False, shows, self.score, self.book, self.PAPER[::-1], 6)

    def test_one_thing_changed_in_each_row(self):
        for k, row in enumerate(self.PAPER):
            rule, first, stop, view, table, reason = row
            state, many = table[0]
            wrong = [
                (rule + 1,) + row[1:], (rule - 1,) + row[1:], (rule, first + 1) + row[2:], (rule, first - 1) + row[2:],
                (rule, first, stop + 1) + row[3:], (rule, first, stop - 1) + row[3:],
                row[:3] + ((-view[0], view[1]),) + row[4:], row[:3] + ((view[0], view[1][::-1]),) + row[4:],
                row[:4] + (((state, many + 1),), reason), row[:4] + (((state, many - 1),), reason), row[:4] + (((state + 1, many),), reason),
                row[:4] + ((table[0], table[0]), reason), row[:4] + ((), reason),
                row[:5] + (reason[:1],) * (len(reason) > 1), row[:5] + (reason + (0,),), row[:5] + (("one",),),
                row[:5] + ((),), row[:5] + (None,), row[:5], row + (0,), (), None, list(row),
            ]
            wrong += [row[:5] + (reason[:m] + (reason[m] + by,) + reason[m + 1:],) for m in range(1, len(reason)) for by in (-1, 1, 100, -100)]
            wrong += [row[:5] + ((word,) + reason[1:],) for word in ("one", "bar", "join", "within", "again", "", None, 0, ("bar",)) if word != reason[0]]
            wrong += [tuple(list(part) if part == thing else part for part in row) for thing in row if isinstance(thing, tuple)]
            plain = Written(self.rules, self.plain)
            for other in wrong:
                if other == row:
                    continue
                paper = self.PAPER[:k] + (other,) + self.PAPER[k + 1:]
                self.assertEqual(plain.shows(paper, 6), shows(self.score, self.book, paper, 6), (k, other))
                self.assertFalse(plain.shows(paper, 6), (k, other))

    def test_true_for_1(self):
        for k, row in enumerate(self.PAPER):
            for m, thing in enumerate(row[:3]):
                if thing in (0, 1):
                    paper = self.PAPER[:k] + (row[:m] + (bool(thing),) + row[m + 1:],) + self.PAPER[k + 1:]
                    self.assert_answer(False, shows, self.score, self.book, paper, 6)
            for view in ((True, row[3][1]), (0, row[3][1]), (2, row[3][1]), (-2, row[3][1]), (row[3][0], (False, True)), (row[3][0], (0, True)), (row[3][0], (0, 0)), (row[3][0], (0, 2)), (row[3][0], (0, -1)), (row[3][0], (0,)), (row[3][0], (0, 1, 2))):
                paper = self.PAPER[:k] + (row[:3] + (view,) + row[4:],) + self.PAPER[k + 1:]
                self.assert_answer(False, shows, self.score, self.book, paper, 6)
            for table in (((False, row[4][0][1]),), ((0, True),), [row[4][0]], (list(row[4][0]),)):
                paper = self.PAPER[:k] + (row[:4] + (table,) + row[5:],) + self.PAPER[k + 1:]
                self.assert_answer(False, shows, self.score, self.book, paper, 6)
        paper = self.PAPER[:1] + ((2, 0, 2, self.V, ((0, 1),), ("within", False)),) + self.PAPER[2:]
        self.assert_answer(False, shows, self.score, self.book, paper, 6)

    def test_what_the_program_writes(self):
        paper = paper_of(self.score, self.book)
        self.assert_answer(True, shows, self.score, self.book, paper, 6)
        self.assertTrue(Written(self.rules, self.plain).shows(paper, 6))

    def test_rows_that_nothing_needs(self):
        row = (1, 1, 2, (-1, (1, 0)), ((0, 0),), ("one",))
        self.assert_answer(True, shows, self.score, self.book, self.PAPER[:-1] + (row,) + self.PAPER[-1:], 6)
        self.assert_answer(False, shows, self.score, self.book, self.PAPER + (row,), 6)
        wrong = (1, 1, 2, (-1, (1, 0)), ((0, 1),), ("one",))
        self.assert_answer(False, shows, self.score, self.book, self.PAPER[:-1] + (wrong,) + self.PAPER[-1:], 6)
        self.assert_answer(True, shows, self.score, self.book, self.PAPER + self.PAPER[-1:], 6)

    def test_wrong_rows_that_nothing_needs(self):
        row = (1, 1, 2, (-1, (1, 0)), ((0, 0),), ("one",))
        wrong = [(rule,) + row[1:] for rule in (-1, -5, 5, 10 ** 40, True, None)]
        wrong += [row[:1] + part + row[3:] for part in ((-1, 0), (-1, 1), (0, 0), (0, -1), (2, 3), (1, 1), (1, 0), (0, 2), (True, 2), (0, True))]
        views = [(sign, (1, 0)) for sign in (0, 2, -2, 3, 10 ** 40, True, None, "1", (1,))]
        views += [(1, order) for order in ((0, 0), (1, 1), (0, 2), (2, 0), (-1, 0), (1, -1), (0,), (0, 1, 2), (), (0, True), (False, 1), (None, 0), [0, 1], "01", None, 0)]
        wrong += [row[:3] + (view,) + row[4:] for view in views + [(1,), (1, (0, 1), 0), [1, (0, 1)], None, ()]]
        wrong += [row[:4] + (table,) + row[5:] for table in (((0, 1),), ((1, 0),), ((0, 0), (1, 0)), (), ((0, 0, 0),), ((0,),), ((False, 0),), ((0, False),), [(0, 0)], ([0, 0],), None)]
        wrong += [row[:5] + (reason,) for reason in (("two",), ("one", 0), ("bar",), (), None, ["one"], "one", ("within", 0), (0,))]
        plain = Written(self.rules, self.plain)
        for other in wrong:
            paper = self.PAPER[:-1] + (other,) + self.PAPER[-1:]
            self.assertFalse(plain.shows(paper, 6), other)
            self.assert_answer(False, shows, self.score, self.book, paper, 6)
        for view in ((1, (0, 1)), (1, (1, 0)), (-1, (0, 1)), (-1, (1, 0))):
            paper = self.PAPER[:-1] + (row[:3] + (view,) + row[4:],) + self.PAPER[-1:]
            self.assert_answer(True, shows, self.score, self.book, paper, 6)

    def test_anything(self):
        for thing in ANYTHING:
            for number in (6, 0, None, True, "6", (), deep(44)):
                self.assert_answer(False, shows, self.score, self.book, thing, number)
                self.assert_answer(False, shows, self.score, self.book, (thing,), number)
            self.assert_answer(False, shows, self.score, self.book, self.PAPER, thing)
            for k, row in enumerate(self.PAPER):
                self.assert_answer(False, shows, self.score, self.book, self.PAPER[:k] + (thing,) + self.PAPER[k + 1:], 6)
                for m in range(6):
                    other = row[:m] + (thing,) + row[m + 1:]
                    if repr(other) != repr(row):
                        self.assert_answer(False, shows, self.score, self.book, self.PAPER[:k] + (other,) + self.PAPER[k + 1:], 6)
        self.assert_answer(False, shows, self.score, self.book, list(self.PAPER), 6)
        self.assert_answer(False, shows, self.score, self.book, self.PAPER + ((),), 6)


class FewColumns(Case):
    def test_of_chance(self):
        chance = random.Random(81)
        for _ in range(150):
            rules = plainly.some_rules(chance, chance.randint(1, 16))
            moves = plainbooks.moves_of(plainly.written(rules)[-1])
            plain = plainbooks.some_book(chance, chance.randint(0, 10), chance.randint(1, 6), 6, moves=moves)
            score, book, written = Score(rules), Book(*plain), Written(rules, plain)
            number = written.number()
            paper = paper_of(score, book)
            self.assertTrue(written.shows(paper, number))
            self.assertLessEqual(len(paper), most_rows(score))
            self.assert_answer(True, shows, score, book, paper, number)
            for other in (number + 1, number - 1, -number, None):
                self.assert_answer(other == number, shows, score, book, paper, other)

    def test_over_ends_of_rules(self):
        """Moves out of one rule into another one that raises, turns, paces or exchanges, by the tests that just hold of them."""
        columns = (((1, 4), 1, ((C, True), ((1, 4), True))), ((1, 3), 0, (((3, 2), True), ((-2, 5), True))))
        rows = (("raise", (3, -1)), ("raise", (0, 1)), ("turn", (2, 7)), ("turn", (0, 8)), ("pace", (3, 5)), ("voices", (1, 0)))
        chance = random.Random(88)
        for one in rows:
            for other in rows:
                rules = (("bar", columns), (one[0], 0, one[1]), (other[0], 1, other[1]), ("then", 0, 2), ("then", 3, 1), (one[0], 4, one[1]), ("then", 5, 0), ("then", 6, 4), ("times", 7, 3))
                for move in plainbooks.moves_of(plainly.written(rules)[-1])[:14]:
                    plain = (plainbooks.test_of_move(chance, *move), plainbooks.test_of_move(chance, *move)), ((((0, 1), (), 1, True),), (((0,), (), 0, False),))
                    written = Written(rules, plain)
                    paper = paper_of(Score(rules), Book(*plain))
                    self.assertTrue(written.shows(paper, written.number()))
                    self.assertTrue(shows(Score(rules), Book(*plain), paper, written.number()))

    def test_papers_made_otherwise(self):
        chance = random.Random(82)
        words = set()
        for _ in range(150):
            rules = plainly.some_rules(chance, chance.randint(1, 12), 30)
            moves = plainbooks.moves_of(plainly.written(rules)[-1])
            plain = plainbooks.some_book(chance, 6, chance.randint(1, 4), 5, moves=moves)
            if chance.random() < 0.4:
                # All tables are alike, so that just the reasons tell right from wrong.
                plain = ((), ((),))
            score, book, written = Score(rules), Book(*plain), Written(rules, plain)
            number = written.number()
            paper = written.some_paper(chance)
            words.update(row[5][0] for row in paper)
            self.assert_answer(True, shows, score, book, paper, number)
            self.assert_answer(False, shows, score, book, paper, number + 1)
            for _ in range(40):
                changed = changed_within(chance, paper)
                self.assertEqual(written.shows(changed, number), shows(score, book, changed, number), changed)
        self.assertEqual({"one", "bar", "join", "within", "again"}, words)

    def test_rows_left_out_and_exchanged(self):
        chance = random.Random(83)
        for _ in range(40):
            rules = plainly.some_rules(chance, 8, 20)
            plain = chance.choice((plainbooks.some_book(chance, 6, 3, 5), ((), ((),))))
            score, book, written = Score(rules), Book(*plain), Written(rules, plain)
            number, paper = written.number(), written.some_paper(chance)
            for k in range(len(paper)):
                m = chance.randrange(len(paper))
                rows = list(paper)
                rows[k], rows[m] = rows[m], rows[k]
                for other in (paper[:k] + paper[k + 1:], tuple(rows), paper[:k] + (paper[m],) + paper[k + 1:]):
                    self.assertEqual(written.shows(other, number), shows(score, book, other, number))

    def test_reasons_that_are_not_right(self):
        rules = (("bar", bar(0, 1)), ("times", 0, 4), ("cut", 1, 1, 7), ("then", 0, 0), ("raise", 3, (1, 0)), ("bar", bar(0, 1)))
        plain = ((("accent", 1),), ((((0,), (), 0, True),),))
        written = Written(rules, plain)
        view = (1, (0,))

        def row(rule, first, stop, *reason):
            return (rule, first, stop, view, written.table(rule, first, stop, view), reason)

        base = (row(0, 0, 2, "bar"), row(0, 0, 1, "one"), row(0, 1, 2, "one"), row(1, 0, 2, "within", 0), row(1, 2, 4, "within", 0), row(1, 1, 3, "join", 5, 6))
        base = base[:5] + (row(1, 1, 2, "within", 2), row(1, 2, 3, "within", 1), row(1, 1, 3, "join", 5, 6), row(1, 3, 5, "again", 7), row(3, 0, 2, "within", 0), row(5, 0, 2, "bar"))
        end = (row(5, 0, 2, "bar"),)
        score, book = Score(rules), Book(*plain)
        self.assert_answer(True, shows, score, book, base + end, 1)
        for good in (
            row(0, 0, 1, "bar"), row(1, 6, 8, "again", 3), row(1, 0, 2, "again", 3), row(1, 5, 7, "again", 7), row(2, 0, 2, "within", 7),
            row(3, 2, 4, "within", 0), row(4, 0, 2, "within", 9), row(1, 0, 4, "join", 3, 4), row(3, 3, 4, "one"), row(4, 3, 4, "one"), row(1, 4, 5, "within", 1),
        ):
            self.assertTrue(written.shows(base + (good,) + end, 1), good)
            self.assert_answer(True, shows, score, book, base + (good,) + end, 1)
        for wrong in (
            row(0, 0, 2, "one"), row(1, 0, 2, "bar"), row(1, 1, 3, "within", 0), row(0, 0, 2, "within", 0), row(0, 0, 2, "again", 0), row(3, 2, 4, "again", 9),
            row(1, 1, 3, "again", 3), row(1, 0, 3, "again", 3), row(2, 0, 2, "within", 3), row(3, 1, 3, "within", 0), row(4, 0, 2, "within", 0),
            row(1, 0, 4, "join", 4, 3), row(1, 0, 4, "join", 3, 3), row(1, 0, 3, "join", 3, 4), row(1, 0, 4, "join", 0, 4), row(1, 2, 4, "join", 4, 4),
            row(0, 0, 2, "within", 10), row(5, 0, 2, "within", 0), row(1, 0, 2, "within", 10), row(1, 0, 2, "again", 10), row(0, 0, 2, "join", 1),
            row(0, 0, 1, "one", 0), row(0, 0, 2, "bar", 0), row(1, 0, 2, "within"), row(1, 0, 2, "within", 0, 0), row(1, 0, 2, "within", 11), row(1, 0, 2, "again", 12),
            row(0, 0, 2, "join", 1, 2, 0), row(0, 0, 2), row(0, 0, 2, "Bar"), row(0, 0, 2, None), row(0, 0, 2, ("bar",)), row(0, 0, 2, ["bar"]),
            row(1, 0, 2, "within", -12), row(1, 0, 2, "within", "0"), row(1, 0, 2, "within", None), row(1, 0, 2, "within", (0,)),
        ):
            self.assertFalse(written.shows(base + (wrong,) + end, 1), wrong)
            self.assert_answer(False, shows, score, book, base + (wrong,) + end, 1)

    def test_reasons_where_all_tables_are_alike(self):
        rules = (("bar", bar(0, 0)), ("times", 0, 4), ("cut", 1, 1, 7), ("then", 0, 0), ("raise", 3, (1, 0)), ("turn", 3, (1, 0)), ("then", 0, 3), ("bar", bar(0, 0)))
        written = Written(rules, ((), ((),)))
        score, book = Score(rules), Book((), ((),))
        view, other_view = (1, (0,)), (-1, (0,))

        def row(rule, first, stop, *reason, seen=view):
            return (rule, first, stop, seen, ((0, 0),), reason)

        base = (row(0, 0, 2, "bar"), row(0, 0, 1, "one"), row(1, 0, 2, "within", 0), row(1, 0, 1, "within", 1), row(3, 0, 2, "within", 0))
        base += (row(3, 2, 4, "within", 0), row(3, 0, 4, "join", 4, 5), row(0, 0, 2, "bar", seen=other_view))
        end = (row(7, 0, 2, "bar"),)
        self.assert_answer(True, shows, score, book, base + end, 0)
        kinds = [(rule, first, stop) for rule in range(7) for first in range(3) for stop in range(first + 1, 5) if stop <= len(written.rows[rule])]
        reasons = [("one",), ("bar",)] + [(word, a) for word in ("within", "again") for a in range(-1, 9)] + [("join", a, b) for a in (2, 4, 0) for b in (2, 5, 3)]
        met = {True: 0, False: 0}
        for rule, first, stop in kinds:
            for reason in reasons:
                for seen in (view, other_view):
                    paper = base + (row(rule, first, stop, *reason, seen=seen),) + end
                    wanted = written.shows(paper, 0)
                    met[wanted] += 1
                    self.assertEqual(wanted, shows(score, book, paper, 0), paper[-2])
        self.assertGreater(min(met.values()), 40)

    def test_rows_that_rest_on_themselves_or_later_ones(self):
        score, book = Score((("bar", bar(0, 1)), ("times", 0, 1))), Book((), ((),))
        view, table = (1, (0,)), ((0, 0),)
        bars, whole = (0, 0, 2, view, table, ("bar",)), (1, 0, 2, view, table, ("within", 0))
        self.assert_answer(True, shows, score, book, (bars, whole), 0)
        for number in (-2, -1, 0, 1, 2):
            again = (1, 0, 2, view, table, ("again", number))
            self.assert_answer(False, shows, score, book, (again,), 0)
            self.assert_answer(False, shows, score, book, (again, bars, (1, 0, 2, view, table, ("within", 1))), 0)
            self.assert_answer(False, shows, score, book, (bars, again), 0)
            self.assert_answer(number in (1, 2), shows, score, book, (bars, whole, whole, again), 0)
            self.assert_answer(False, shows, score, book, ((1, 0, 2, view, table, ("within", number)), bars), 0)

    def test_true_for_the_number(self):
        for accents, number in (((0, 0), 0), ((0, 1), 1)):
            score, book = Score((("bar", bar(*accents)),)), Book((("accent", 1),), ((((0,), (), 0, True),),))
            paper = paper_of(score, book)
            self.assert_answer(True, shows, score, book, paper, number)
            for thing in (True, False, None, str(number), (number,), [number]):
                self.assert_answer(False, shows, score, book, paper, thing)

    def test_the_last_row(self):
        rules = (("bar", bar(1, 1)), ("turn", 0, (0, 8)))
        plain = ((("accent", 1),), ((((0,), (), 0, True),),))
        score, book = Score(rules), Book(*plain)
        low, plain_view = (-1, (0,)), (1, (0,))
        start = ((0, 0, 2, low, ((0, 1),), ("bar",)), (0, 0, 2, plain_view, ((0, 1),), ("bar",)))
        for end, wanted in (
            ((1, 0, 2, plain_view, ((0, 1),), ("within", 0)), True), ((1, 0, 2, low, ((0, 1),), ("within", 1)), False),
            ((1, 0, 1, plain_view, ((0, 0),), ("one",)), False), ((0, 0, 2, plain_view, ((0, 1),), ("bar",)), False),
        ):
            self.assert_answer(wanted, shows, score, book, start + (end,), 2)
            self.assert_answer(False, shows, score, book, start + (end,), 1)

    def test_the_move_of_column_0(self):
        for states, number in ((((((), (), 1, True),), ()), 1), (((((), (), 1, False),), (((), (), 1, True),)), 2)):
            score, book = Score((("bar", bar(0, 0, 0)),)), Book((), states)
            paper = paper_of(score, book)
            self.assertEqual(1, len(paper))
            for other in range(4):
                self.assert_answer(other == number, shows, score, book, paper, other)


class ManyColumns(Case):
    def test_great_scores(self):
        chance = random.Random(84)
        for _ in range(25):
            rules, counts = plainly.great_rules(chance, chance.choice((5, 25, 60)))
            score, book = Score(rules), Book(*plainbooks.some_book(chance, 12, chance.choice((1, 5, 24)), 8))
            number, paper = broken_count(score, book), paper_of(score, book)
            self.assertLessEqual(len(paper), most_rows(score))
            self.assertTrue(shows(score, book, paper, number))
            self.assertFalse(shows(score, book, paper, number + 1))
            self.assertFalse(shows(score, book, paper, number - 1))
            k = chance.randrange(len(paper))
            rule, first, stop, view, table, reason = paper[k]
            state, many = table[-1]
            for other in ((state, many + 1), (state, many - 1), (state + 1, many), (state - 1, many)):
                changed = paper[:k] + ((rule, first, stop, view, table[:-1] + (other,), reason),) + paper[k + 1:]
                self.assertFalse(shows(score, book, changed, number))

    def test_copies(self):
        for many in (1, 2, 3, 2 ** 39 - 1, 2 ** 39, 10 ** 12 - 1, 10 ** 12):
            score, book = Score((("bar", bar(1)), ("times", 0, many))), Book((("accent", 1),), ((((0,), (), 1, True),), (((0,), (), 0, False),)))
            paper = paper_of(score, book)
            self.assertLessEqual(len(paper), 600)
            self.assert_answer(True, shows, score, book, paper, (many + 1) // 2)
            self.assert_answer(False, shows, score, book, paper, many // 2 + 1 + many % 2)

    def test_many_views_and_cuts(self):
        """Rules seen in all 48 views, above cuts of copies of cuts."""
        chance = random.Random(85)
        rules = [("bar", plainly.some_bar(chance, 4, 64)), ("times", 0, 10 ** 8)]
        while len(rules) < 42:
            count = Score(rules).count
            rules += [("cut", len(rules) - 1, 1 + chance.randrange(count // 9), count - chance.randrange(count // 9)), ("then", len(rules), len(rules) - chance.randint(1, 2))]
            if Score(rules).count > 10 ** 9:
                rules += [("cut", len(rules) - 1, chance.randrange(10 ** 8), 2 * 10 ** 8), ("times", len(rules), 3)]
        for order in ((1, 0, 2, 3), (0, 2, 1, 3), (0, 1, 3, 2), (1, 0, 2, 3), (0, 2, 1, 3), (1, 0, 2, 3)):
            rules += [("voices", len(rules) - 1, order), ("then", len(rules) - 1, len(rules))]
        rules += [("turn", len(rules) - 1, (0, 8)), ("then", len(rules) - 1, len(rules))]
        score, book = Score(rules), Book(*plainbooks.some_book(chance, 10, 6, 8))
        self.assertEqual(48, views_of(score))
        paper = paper_of(score, book)
        self.assertLessEqual(len(paper), MOST_ROWS)
        self.assertTrue(shows(score, book, paper, broken_count(score, book)))
        self.assertFalse(shows(score, book, paper, broken_count(score, book) + 1))

    def test_the_most_rows(self):
        score, book = Score((("bar", bar(1, 0, 1)), ("times", 0, 10 ** 11))), Book((("accent", 1),), ((((0,), (), 0, True),),))
        paper = paper_of(score, book)
        filler = (1, 10 ** 10, 10 ** 10 + 1, (1, (0,)), ((0, 0),), ("one",))

        def filled(many):
            ahead = many - len(paper)
            rows = tuple(row[:5] + (row[5][:1] + tuple(a + ahead for a in row[5][1:]),) for row in paper)
            return (filler,) * ahead + rows

        self.assertTrue(shows(score, book, filled(MOST_ROWS), 2 * 10 ** 11))
        self.assertFalse(shows(score, book, filled(MOST_ROWS + 1), 2 * 10 ** 11))
        self.assertFalse(shows(score, book, filled(MOST_ROWS)[:-1] + (None,), 2 * 10 ** 11))


class Tables(Case):
    def test_of_chance(self):
        chance = random.Random(86)
        for _ in range(150):
            rules = plainly.some_rules(chance, chance.randint(1, 12))
            rows = plainly.written(rules)
            plain = plainbooks.some_book(chance, chance.randint(0, 16), chance.randint(1, 24), 8, moves=plainbooks.moves_of(rows[-1]))
            score, book = Score(rules), Book(*plain)
            for _ in range(6):
                rule = chance.randrange(len(rules))
                first = chance.randrange(len(rows[rule]))
                stop = chance.randint(first + 1, len(rows[rule]))
                view = some_view(chance, score.voices)
                wanted = plainbooks.table(plain, rows[rule][first:stop], view)
                self.assert_answer(wanted, table_of, score, book, rule, first, stop, view)
                self.assert_answer(wanted, table_of, score, book, rule, first, stop, [view[0], list(view[1])])

    def test_all_views(self):
        chance = random.Random(87)
        rules = plainly.some_rules(chance, 12)
        while len(rules[0][1][0][2]) != 4:
            rules = plainly.some_rules(chance, 12)
        rows = plainly.written(rules)
        plain = plainbooks.some_book(chance, 16, 4, 8)
        score, book = Score(rules), Book(*plain)
        for rule in range(12):
            for sign in (1, -1):
                for order in permutations(range(4)):
                    wanted = plainbooks.table(plain, rows[rule], (sign, order))
                    self.assert_answer(wanted, table_of, score, book, rule, 0, len(rows[rule]), (sign, order))

    def test_no_rule(self):
        score, book = Score((("bar", bar(0, 1)), ("times", 0, 5))), Book((), ((),))
        for rule in (-1, 2, 3, 10 ** 40, True, False, None, "0", "", (), [0], {}, {0: 1}, (0,), deep(44)):
            for first, stop in ((0, 2), (-1, 0), (99, 3)):
                self.assert_raises(BadScore, {"number": rule, "reason": "rule"}, table_of, score, book, rule, first, stop, (1, (0,)))

    def test_no_column(self):
        score, book = Score((("bar", bar(0, 1)), ("times", 0, 5))), Book((), ((),))
        for rule, count in ((0, 2), (1, 10)):
            for first in (-1, count, count + 1, 10 ** 40):
                for stop in (first, 1, count):
                    self.assert_raises(NoColumn, {"number": first}, table_of, score, book, rule, first, stop, (1, (0,)))
            for stop in (-1, 0, 1, count + 1, 10 ** 40):
                self.assert_raises(NoColumn, {"number": stop}, table_of, score, book, rule, 1, stop, (1, (0,)))
            self.assert_answer(((0, 0),), table_of, score, book, rule, count - 1, count, (-1, (0,)))


if __name__ == "__main__":
    unittest.main()

"""Promise [0.3] over the whole program: errors, what is told, and what was handed in."""

import importlib
import pkgutil
import unittest

import counterheld
from counterheld.alike import alike_for, bridges_between, difference_at, follows
from counterheld.bartexts import read_bar
from counterheld.bench import Bench, BenchError, rebuilt
from counterheld.books import Book, turned_book
from counterheld.boxes import word_at
from counterheld.breaking import badness, best_lines, pieces_of
from counterheld.bridges import check_bridge
from counterheld.broken import broken
from counterheld.columns import check_bar
from counterheld.costs import cheapest, potentials
from counterheld.errors import ScoreError
from counterheld.gaps import blocked, filling_count
from counterheld.keys import scale
from counterheld.likeness import likeness_paper
from counterheld.lines import note, note_count, notes_by_tone
from counterheld.machines import machine
from counterheld.moments import column, column_at, written
from counterheld.names import read_tone
from counterheld.pages import best_pages, page_potentials
from counterheld.papers import paper_of, table_of
from counterheld.pulses import beat, meeting
from counterheld.refrains import refrain_at
from counterheld.scores import Score
from counterheld.scoretexts import read_score
from counterheld.sequences import sequence
from counterheld.tempos import time_of
from counterheld.themes import commonest, longest_twice, theme_count, theme_of, theme_place
from tests.checks import Case

BAR = read_bar("1/4 C4 C3 | 1/8!1 E4 ~C3")
SCORE = Score((("bar", BAR), ("raise", 0, (1, 0)), ("then", 0, 1), ("times", 2, 3), ("turn", 3, (0, 8))))
GREAT = Score(SCORE.rules + (("times", 4, 10 ** 9),))
BOOK = Book((("leap", 0, -12, -1), ("accent", 1)), ((((0, 1), (), 0, True),),))
THEME = (((0, 0), (1, 1)), ((-4, 2), (1, 1)))
PIECES = (((2, 1), (1, 1), (0, 1)),) * 3
GAP = (SCORE, (BAR,), 2, SCORE)
PLAIN = (1, (0, 1), (0, 0), (1, 1))


def some_bench():
    bench = Bench()
    bench.set_line("a", ("bar", BAR))
    bench.set_line("b", ("times", "a", 2))
    return bench


# For each class of error a call for which it is due, and its attributes.
DUE = {
    "names.BadName": (lambda: read_tone("H4"), {"text": "H4"}),
    "keys.BadKey": (lambda: scale((8, False), 4), {}),
    "columns.BadColumn": (lambda: check_bar(((),)), {"number": 0, "reason": "column"}),
    "bartexts.BadText": (lambda: read_bar("1/4 C4 | 1/4 H4"), {"position": 9}),
    "scores.BadScore": (lambda: Score((("bar", BAR), ("times", 0, 0))), {"number": 1, "reason": "times"}),
    "scores.TooLong": (lambda: written(GREAT), {}),
    "scoretexts.BadScoreText": (lambda: read_score("bar 1/4 C4\nshout"), {"line": 1, "position": 0}),
    "moments.NoColumn": (lambda: column(SCORE, 12), {"number": 12}),
    "moments.NoMoment": (lambda: column_at(SCORE, (9, 4)), {"moment": (9, 4)}),
    "lines.NoVoice": (lambda: note_count(SCORE, 2), {}),
    "lines.NoNote": (lambda: note(SCORE, 0, 12), {}),
    "books.BadBook": (lambda: Book((), ()), {"part": "states", "number": None}),
    "broken.NoBroken": (lambda: broken(SCORE, BOOK, 6), {}),
    "boxes.BadBox": (lambda: word_at((BAR, BAR[0]), BOOK, 1, 0), {"number": 1}),
    "gaps.BadGap": (lambda: filling_count((SCORE, (BAR,), 401, SCORE), BOOK), {"reason": "number"}),
    "themes.BadTheme": (lambda: theme_count(SCORE, 0, THEME[:1], (True, True)), {}),
    "themes.NoPlace": (lambda: theme_place(SCORE, 0, THEME, (False, True), 6), {}),
    "tempos.BadTempo": (lambda: time_of((), None, (0, 1)), {}),
    "pulses.BadPulse": (lambda: meeting((((0, 1), (0, 1)),)), {"number": 0}),
    "breaking.BadPieces": (lambda: badness(PIECES + (None,), 0, 1, (5, 1)), {"number": 3}),
    "breaking.BadRoom": (lambda: badness(PIECES, 0, 1, (0, 1)), {}),
    "pages.BadTurns": (lambda: best_pages(PIECES, (5, 1), (0, 0), 1, 1), {}),
    "bench.BadWord": (lambda: some_bench().set_line("A", ("bar", BAR)), {"name": "A"}),
    "bench.NoLine": (lambda: some_bench().rule("x"), {"name": "x"}),
    "bench.NoBook": (lambda: some_bench().book("x"), {"name": "x"}),
    "bench.NoRoom": (lambda: rebuilt_with_room(), {"name": "x9"}),
    "bench.InUse": (lambda: some_bench().take_line("a"), {"name": "b"}),
    "bench.Circle": (lambda: some_bench().set_line("a", ("times", "b", 2)), {"name": "a"}),
    "bench.NothingLeft": (lambda: Bench().undo(), {"name": None}),
    "bench.BadLine": (lambda: some_bench().set_line("c", ("times", "b", 0)), {"name": "c", "reason": "times"}),
    "bench.BadEntry": (lambda: rebuilt((("undo",),)), {"number": 0}),
    "bridges.BadBridge": (lambda: check_bridge(PLAIN, 3), {}),
}
# Right calls, which answer the same whatever was refused between.
RIGHT = (
    lambda: read_tone("C4"), lambda: scale((0, False), 4), lambda: check_bar(BAR), lambda: written(SCORE), lambda: note(SCORE, 1, 1),
    lambda: broken(SCORE, BOOK, 2), lambda: word_at((BAR,), BOOK, 1, 0), lambda: filling_count(GAP, BOOK), lambda: cheapest(GAP, BOOK, (1,)),
    lambda: theme_place(SCORE, 0, THEME, (False, True), 1), lambda: commonest(SCORE, 0, 2, False), lambda: time_of((((0, 1), (60, 1)),), None, (2, 1)),
    lambda: meeting((((0, 1), (2, 1)), ((1, 1), (3, 1)))), lambda: best_lines(PIECES, (5, 1)), lambda: best_pages(PIECES, (5, 1), (0, 7, 2), 1, 1),
    lambda: some_bench().journal(), lambda: bridges_between(SCORE, SCORE), lambda: likeness_paper(SCORE, SCORE, PLAIN), lambda: sequence(SCORE, 0, 12),
    lambda: paper_of(SCORE, BOOK),
)


def rebuilt_with_room():
    bench = some_bench()
    for number in range(8):
        bench.set_book(f"x{number}", BOOK)
    bench.set_book("x9", BOOK)


class Errors(Case):
    def classes(self):
        """All classes of errors of the package, by where they are defined."""
        told = {}
        for module in pkgutil.iter_modules(counterheld.__path__):
            for name, thing in vars(importlib.import_module(f"counterheld.{module.name}")).items():
                if isinstance(thing, type) and issubclass(thing, Exception) and thing.__module__.endswith("." + module.name):
                    told[f"{module.name}.{name}"] = thing
        return told

    def test_each_class(self):
        classes = self.classes()
        self.assertEqual({"errors.ScoreError", "bench.BenchError"}, set(classes) - set(DUE))
        self.assertEqual(set(), set(DUE) - set(classes))
        for place, error in classes.items():
            if place == "errors.ScoreError":
                self.assertEqual((ValueError,), error.__bases__)
            elif place in DUE and place.startswith("bench.") and place != "bench.BadEntry":
                self.assertEqual((BenchError,), error.__bases__)
            else:
                self.assertEqual((ScoreError,), error.__bases__)

    def test_each_is_raised(self):
        classes = self.classes()
        before = [repr(call()) for call in RIGHT]
        for place, (call, attributes) in DUE.items():
            self.assert_raises(classes[place], attributes, call)
            self.assertEqual(before, [repr(right()) for right in RIGHT])


class Told(Case):
    def plain(self, thing):
        """Whether it is made of tuples, texts, numbers, True, False and None alone."""
        if type(thing) is tuple:
            return all(self.plain(part) for part in thing)
        if type(thing) is dict:
            return all(self.plain(pair) for pair in thing.items())
        return thing is None or type(thing) in (int, bool, str)

    def test_tuples_are_told(self):
        for call in RIGHT:
            self.assertTrue(self.plain(call()))
        for thing in (
            notes_by_tone(SCORE, 0), table_of(SCORE, BOOK, 0, 0, 2, [1, [0, 1]]), machine((BAR,), BOOK), blocked(GAP, BOOK), potentials(GAP, BOOK, [3]),
            refrain_at((SCORE, [BAR], 1, SCORE, SCORE), BOOK, 0), theme_of(SCORE, 0, 0, 3), longest_twice(SCORE, 0, True), beat([[[0, 1], [2, 1]]], 3),
            pieces_of(SCORE, 0, [2, 4], [1, 2]), page_potentials(list(PIECES), [5, 1], [0, None, 2], 1, 2), difference_at(SCORE, GREAT, 3),
            alike_for(SCORE, 0, SCORE, 0, [1, [0, 1], [0, 0], [1, 1]]), follows(SCORE, 0, 0, 4), SCORE.rules, SCORE.counts(), turned_book(BOOK).tests, some_bench().lines(),
            some_bench().rule("b"), some_bench().leads_to("b"), some_bench().duration_of("b"),
        ):
            self.assertTrue(self.plain(thing), thing)

    def test_dicts_may_be_changed(self):
        told = notes_by_tone(SCORE, 0)
        wanted = dict(told)
        told.clear()
        self.assertEqual(wanted, notes_by_tone(SCORE, 0))

    def test_what_was_handed_in_may_be_changed(self):
        bar = [[[1, 4], 0, [[[0, 4], True], None]], [[1, 4], 0, [[[1, 4], True], None]]]
        rules = [["bar", bar], ["times", 0, 3]]
        tests, states = [["accent", 0]], [[[[0], [], 0, True]]]
        score, book = Score(rules), Book(tests, states)
        bench = Bench()
        bench.set_line("a", rules[0])
        bench.set_book("k", book)
        journal = [list(entry) for entry in bench.journal()]
        other = rebuilt(journal)
        before = (repr(score.rules), repr(book.tests), repr(book.states), repr(bench.journal()), repr(other.journal()))
        bar[0][2][0][0][0] = 5
        bar.append(None)
        rules.append(None)
        tests[0][1] = 7
        states[0][0][3] = False
        journal[0][2] = None
        self.assertEqual(before, (repr(score.rules), repr(book.tests), repr(book.states), repr(bench.journal()), repr(other.journal())))
        self.assertEqual(6, broken_count_of(bench, score, book))

    def test_journals_are_not_those_of_the_bench(self):
        bench = some_bench()
        told = bench.journal()
        bench.undo()
        self.assertEqual(2, len(told))
        self.assertEqual(1, len(bench.journal()))


def broken_count_of(bench, score, book):
    """How many columns the book breaks of three times the line of the bench, which is the score."""
    bench.set_line("b", ("times", "a", 3))
    return bench.broken_count("b", "k") if bench.score("b").rules == score.rules and book.tests else None


if __name__ == "__main__":
    unittest.main()

"""Promises [M1] to [M5]: counterheld.bench."""

import random
import unittest

from counterheld import bench as benches
from counterheld.bartexts import read_bar
from counterheld.bench import BadEntry, Bench, BenchError, rebuilt
from counterheld.books import Book
from counterheld.broken import broken_count, first_broken
from counterheld.errors import ScoreError
from counterheld.scores import Score
from tests import plainly
from tests.checks import Case
from tests.plainbench import PlainBench, Refused, replayed
from tests.plainpapers import changed_within, deep

BAR = read_bar("1/4 C4 C3 | 1/8!1 E4 ~C3")
BOOK = Book((("leap", 0, -12, -1), ("accent", 1)), ((((0, 1), (), 0, True),),))
ALL = Book((), ((),))
NAMES = ("a", "b", "c", "d1", "e", "zz", "c0")
BOOKS = ("k", "a", "m9")
NO_NAMES = (
    "", "A", "1a", "a b", "a_", "abcdefghijklm", "\u00e4", "a\n", "\u00b2", "a\u0661", None, True, 0, 1.5, (), ["a"], ("a",), {}, {"a": 1}, deep(44),
)


def some_rule(chance, names):
    """Some rule over lines with these names, mostly right."""
    word = chance.choice(("bar", "then", "then", "times", "raise", "turn", "pace", "voices", "cut", "bad"))
    one, other = chance.choice(names), chance.choice(names)
    if word == "bar" or chance.random() < 0.1:
        return ("bar", plainly.some_bar(chance, chance.choice((2, 2, 2, 2, 1)), 3, far=3))
    if word == "then":
        return (word, one, other)
    if word == "times":
        return (word, one, chance.choice((1, 2, 3, 10, 10 ** 6)))
    if word in ("raise", "turn"):
        return (word, one, chance.choice(((1, 0), (0, 1), (3, -2), (0, 0), (600, 0))))
    if word == "pace":
        return (word, one, chance.choice(((1, 2), (3, 2))))
    if word == "voices":
        return (word, one, chance.choice(((1, 0), (1, 0), (0, 1), (0,))))
    if word == "cut":
        return (word, one, chance.choice((0, 0, 1)), chance.choice((1, 2, 3, 5)))
    return chance.choice((
        (), None, ("bar",), ("bar", ()), ("then", one), ("then", one, other, other), ("times", one, 0), ("times", one, True), ("raise", one, None),
        ("pace", one, (2, 2)), ("cut", one, 3, 3), ("then", one, 5), ("then", None, one), ("then", [one], other), ["then", one, other], ("then", "none", "nix"),
        ("turn", one, [0, 1]), ("shout", one, 2), ("times", {}, 2), "then", {"then": 1}, ("then", one, deep(40)),
    ))


class Same(Case):
    """Benches beside plain ones."""

    def both(self, bench, plain, method, *arguments):
        """Does the same on both: both are refused alike, or answer the same."""
        try:
            wanted = getattr(plain, method)(*arguments)
        except Refused as refused:
            error, name, reason = refused.told
            attributes = {"name": name} if reason is None else {"name": name, "reason": reason}
            self.assert_raises(getattr(benches, error), attributes, getattr(bench, method), *arguments)
            return False
        self.assert_same(wanted, getattr(bench, method)(*arguments))
        return True

    def compare(self, bench, plain):
        self.assert_same(tuple(sorted(plain.lines)), bench.lines())
        self.assert_same(tuple(sorted(plain.books)), bench.books())
        self.assert_same(plain.journal(), bench.journal())
        for name in plain.lines:
            self.assert_same(plain.lines[name], bench.rule(name))
            self.assert_same(plain.in_order(plain.leads(name)), bench.leads_to(name))
            score = Score(plain.rules(name))
            self.assert_same(score.rules, bench.score(name).rules)
            self.assert_same((score.voices, score.count, score.duration), (bench.voices_of(name), bench.length(name), bench.duration_of(name)))
        for name in plain.books:
            self.assert_same(plain.books[name], (bench.book(name).tests, bench.book(name).states))
        for name in set(NAMES) - set(plain.lines):
            for method in ("rule", "leads_to", "voices_of", "length", "duration_of", "score"):
                self.assert_raises(benches.NoLine, {"name": name}, getattr(bench, method), name)

    def ask(self, chance, bench, plain):
        """The numbers of broken columns, and the work that they make."""
        for _ in range(2):
            name, book = chance.choice(NAMES), chance.choice(BOOKS)
            if name not in plain.lines or book not in plain.books:
                error, wrong = ("NoBook", book) if name in plain.lines else ("NoLine", name)
                for method in (bench.broken_count, bench.first_broken):
                    self.assert_raises(getattr(benches, error), {"name": wrong}, method, name, book)
                continue
            score, reader = Score(plain.rules(name)), Book(*plain.books[book])
            if chance.random() < 0.3:
                self.assert_same(first_broken(score, reader), bench.first_broken(name, book))
            plain.asked(name, book)
            self.assert_same(broken_count(score, reader), bench.broken_count(name, book))
            if chance.random() < 0.7:
                self.assert_same(plain.told_work(), bench.work())

    def step(self, chance, bench, plain):
        way = chance.randrange(16)
        name, other = chance.choice(NAMES), chance.choice(NAMES)
        if way < 6:
            there = [told for told in NAMES if told in plain.lines] or list(NAMES)
            return self.both(bench, plain, "set_line", name, some_rule(chance, chance.choice((there, NAMES))))
        if way == 6 and name in plain.lines:
            return self.both(bench, plain, "set_line", name, plain.lines[name])
        if way == 7:
            return self.both(bench, plain, "take_line", name)
        if way in (8, 9):
            return self.both(bench, plain, "exchange", name, chance.choice((other, other, name)))
        if way in (10, 11):
            return self.both(bench, plain, "set_book", chance.choice(BOOKS), chance.choice((BOOK, ALL, Book(BOOK.tests, BOOK.states))))
        if way == 12:
            return self.both(bench, plain, "take_book", chance.choice(BOOKS))
        if way == 13:
            return self.both(bench, plain, "redo")
        done = True
        for _ in range(chance.choice((1, 1, 2, 5))):
            done = self.both(bench, plain, chance.choice(("undo", "undo", "undo", "redo")))
        return done

    def test_two_benches_at_once(self):
        chance = random.Random(361)
        refused = done = 0
        for _ in range(10):
            pairs = [(Bench(), PlainBench()) for _ in range(2)]
            for _ in range(90):
                for bench, plain in pairs:
                    if self.step(chance, bench, plain):
                        done += 1
                    else:
                        refused += 1
                    self.ask(chance, bench, plain)
                    self.compare(bench, plain)
        self.assertGreater(min(refused, done), 300)

    def test_journals(self):
        chance = random.Random(362)
        spoilt = 0
        for _ in range(12):
            bench, plain = Bench(), PlainBench()
            while len(bench.journal()) < 25:
                self.step(chance, bench, plain)
            journal = bench.journal()
            again, plain_again = rebuilt(list(journal)), replayed(journal)[0]
            self.compare(again, plain_again)
            while self.both(again, plain_again, "undo"):
                self.compare(again, plain_again)
            self.assert_same(journal, bench.journal())
            for many in range(0, len(journal), 5):
                self.compare(rebuilt(journal[:many]), replayed(journal[:many])[0])
            for _ in range(25):
                at = chance.randrange(len(journal))
                told = chance.choice((
                    journal[:at] + (changed_within(chance, journal[at]),) + journal[at + 1:], journal[:at] + journal[at + 1:],
                    journal[:at] + (chance.choice(journal),) + journal[at:], journal[:at] + (("take line", "none"),) + journal[at:],
                ))
                wanted, right = replayed(told)
                if right:
                    self.compare(rebuilt(told), wanted)
                else:
                    self.assert_raises(BadEntry, {"number": wanted}, rebuilt, told)
                    spoilt += 1
        self.assertGreater(spoilt, 60)


class Refusals(Case):
    def bench(self):
        told = Bench()
        told.set_line("a", ("bar", BAR))
        told.set_line("b", ("turn", "a", (0, 8)))
        told.set_line("c", ("then", "a", "b"))
        told.set_book("k", BOOK)
        return told

    def refuse(self, error, attributes, method, *arguments, bench=None):
        """Nothing is changed by what is refused, and what was undone can still be done again."""
        bench = self.bench() if bench is None else bench
        bench.set_line("u", ("times", "a", 2))
        bench.undo()
        before = (bench.journal(), bench.lines(), bench.books(), [bench.rule(name) for name in bench.lines()])
        self.assert_raises(error, attributes, getattr(bench, method), *arguments)
        self.assertEqual(before, (bench.journal(), bench.lines(), bench.books(), [bench.rule(name) for name in bench.lines()]))
        self.assertEqual(("set line", "u", ("times", "a", 2)), bench.redo())
        bench.undo()

    def test_words(self):
        for name in NO_NAMES:
            self.refuse(benches.BadWord, {"name": name}, "set_line", name, None)
            self.refuse(benches.BadWord, {"name": name}, "set_book", name, BOOK)
        bench = self.bench()
        for name in ("z", "a1", "abcdefghijkl", "z99999999999"):
            bench.set_line(name, ("times", "a", 2))
            bench.set_book(name, BOOK)
        for method in ("take_line", "rule", "leads_to", "voices_of", "length", "duration_of", "score"):
            for name in NO_NAMES + ("none", "k"):
                self.refuse(benches.NoLine, {"name": name}, method, name)
        for name in NO_NAMES + ("none", "c"):
            self.refuse(benches.NoBook, {"name": name}, "book", name)
            self.refuse(benches.NoBook, {"name": name}, "take_book", name)
            if name != "c":
                self.refuse(benches.NoLine, {"name": name}, "exchange", name, None)
                self.refuse(benches.NoLine, {"name": name}, "exchange", "a", name)
            self.refuse(benches.NoBook, {"name": name}, "broken_count", "a", name)
            self.refuse(benches.NoBook, {"name": name}, "first_broken", "a", name)
        self.refuse(benches.NoLine, {"name": "x"}, "broken_count", "x", "y")
        self.refuse(benches.NoLine, {"name": "x"}, "first_broken", "x", "y")

    def test_room(self):
        bench = Bench()
        bench.set_line("a", ("bar", BAR))
        for number in range(199):
            bench.set_line(f"l{number}", ("raise", "a", (0, number)))
        for number in range(8):
            bench.set_book(f"b{number}", BOOK)
        self.assert_raises(benches.NoRoom, {"name": "new"}, bench.set_line, "new", None)
        self.assert_raises(benches.NoRoom, {"name": "new"}, bench.set_book, "new", BOOK)
        self.assert_raises(benches.BadWord, {"name": "New"}, bench.set_line, "New", None)
        bench.set_line("l7", ("turn", "a", (0, 0)))
        bench.set_book("b7", ALL)
        self.assertEqual(200, len(bench.lines()))
        bench.set_line("a", ("bar", BAR[:1]))
        self.assertEqual(1, bench.length("l198"))
        bench.take_line("l0")
        bench.take_book("b0")
        bench.set_line("new", ("times", "l198", 3))
        bench.set_book("new", BOOK)
        self.assertEqual((200, 8), (len(bench.lines()), len(bench.books())))

    def test_lines(self):
        for rule, error, attributes in (
            (None, "BadLine", {"name": "n", "reason": "word"}), (("then", "a"), "BadLine", {"name": "n", "reason": "word"}), (("shout", "x", "y"), "BadLine", {"name": "n", "reason": "word"}),
            (("bar", ()), "BadLine", {"name": "n", "reason": "bar"}), (("bar", deep(44)), "BadLine", {"name": "n", "reason": "bar"}),
            (("then", "a", "x"), "NoLine", {"name": "x"}), (("then", None, "x"), "NoLine", {"name": None}), (("then", ["a"], "x"), "NoLine", {"name": ["a"]}),
            (("then", "n", "x"), "NoLine", {"name": "n"}), (("times", 0, 0), "NoLine", {"name": 0}), (("times", deep(40), 0), "NoLine", {"name": deep(40)}),
            (("times", "a", 0), "BadLine", {"name": "n", "reason": "times"}), (("times", "a", 10 ** 12), "BadLine", {"name": "n", "reason": "large"}),
            (("raise", "a", 5), "BadLine", {"name": "n", "reason": "interval"}), (("turn", "a", (0, 1001)), "BadLine", {"name": "n", "reason": "interval"}),
            (("raise", "a", (1000, 0)), "BadLine", {"name": "n", "reason": "large"}), (("pace", "a", (1, 1001)), "BadLine", {"name": "n", "reason": "pace"}),
            (("voices", "a", (0,)), "BadLine", {"name": "n", "reason": "voices"}), (("cut", "a", 0, 3), "BadLine", {"name": "n", "reason": "cut"}),
        ):
            self.refuse(getattr(benches, error), attributes, "set_line", "n", rule)

    def test_circles(self):
        for name, rule in (
            ("a", ("turn", "b", (0, 8))), ("a", ("then", "c", "c")), ("b", ("then", "a", "c")), ("c", ("times", "c", 2)), ("a", ("times", "a", 0)),
            ("a", ("then", "a", "b")),
        ):
            self.refuse(benches.Circle, {"name": name}, "set_line", name, rule)
        self.refuse(benches.NoLine, {"name": "x"}, "set_line", "a", ("then", "b", "x"))

    def test_lines_ahead(self):
        """The first line, in their order, whose rule would not be right any more."""
        bench = self.bench()
        bench.set_line("s", ("cut", "c", 1, 4))
        bench.set_line("o", ("voices", "s", (1, 0)))
        bench.set_line("m", ("times", "c", 10 ** 11))
        bench.set_line("h", ("raise", "c", (990, 0)))
        bench.set_line("b2", ("bar", BAR))
        bench.set_line("t", ("then", "b2", "c"))
        single = tuple((duration, accent, entries[:1]) for duration, accent, entries in BAR)
        for name, rule, wrong, reason in (
            ("a", ("bar", BAR[:1]), "s", "cut"), ("a", ("bar", single), "t", "voices"), ("a", ("bar", BAR * 6), "m", "large"), ("a", ("raise", "b2", (100, 0)), "h", "large"),
            ("b2", ("bar", single), "t", "voices"), ("c", ("cut", "a", 0, 1), "s", "cut"), ("c", ("cut", "t", 0, 1), None, "circle"), ("s", ("bar", single), "o", "voices"),
            ("b", ("bar", single), "c", "voices"),
        ):
            if reason == "circle":
                self.refuse(benches.Circle, {"name": name}, "set_line", name, rule, bench=bench)
            elif name == "a" and reason == "voices":
                # The voices of b, c and h are changed along; s and o come ahead of t.
                self.refuse(benches.BadLine, {"name": "o", "reason": "voices"}, "set_line", name, rule, bench=bench)
            else:
                self.refuse(benches.BadLine, {"name": wrong, "reason": reason}, "set_line", name, rule, bench=bench)

    def test_the_order_of_lines_ahead(self):
        """What a line names besides says nothing of its place among the lines that lead to another one."""
        bench = Bench()
        for name in ("a", "z"):
            bench.set_line(name, ("bar", BAR))
        bench.set_line("t", ("then", "a", "z"))
        bench.set_line("b", ("cut", "t", 1, 4))
        bench.set_line("c", ("cut", "a", 1, 2))
        bench.set_line("zz", ("then", "z", "z"))
        bench.set_line("d", ("then", "zz", "a"))
        bench.set_line("d1", ("cut", "d", 2, 6))
        # c, then d and d1, then t and b.
        self.refuse_many(bench, "a", ("bar", BAR[:1]), "c", "cut")
        bench.take_line("c")
        self.refuse_many(bench, "a", ("bar", BAR[:1]), "d1", "cut")
        bench.take_line("d1")
        self.refuse_many(bench, "a", ("bar", BAR[:1]), "b", "cut")
        bench.set_line("e", ("times", "d", 10 ** 11))
        self.refuse_many(bench, "a", ("bar", BAR * 32), "e", "large")

    def test_many(self):
        bench = Bench()
        bench.set_line("l0", ("bar", BAR))
        for number in range(1, 60):
            bench.set_line(f"l{number}", ("raise", f"l{number - 1}", (0, 0)))
        self.assertEqual(60, len(bench.leads_to("l59")))
        self.assertEqual(2, bench.length("l59"))
        self.refuse_many(bench, "l60", ("raise", "l59", (0, 0)), "l60", "many")
        self.refuse_many(bench, "l60", ("times", "l59", 0), "l60", "times")
        bench.set_line("x", ("bar", BAR))
        self.refuse_many(bench, "l0", ("raise", "x", (0, 0)), "l59", "many")
        bench.set_line("y", ("then", "l57", "x"))
        self.assertEqual(60, len(bench.leads_to("y")))
        self.refuse_many(bench, "x", ("times", "l0", 10 ** 12), "x", "large")
        bench.set_line("z1", ("bar", BAR))
        self.refuse_many(bench, "x", ("then", "z1", "z1"), "y", "many")
        bench.set_line("x", ("then", "l3", "l3"))
        self.assertEqual(60, len(bench.leads_to("y")))

    def refuse_many(self, bench, name, rule, wrong, reason):
        before = bench.journal()
        self.assert_raises(benches.BadLine, {"name": wrong, "reason": reason}, bench.set_line, name, rule)
        self.assertEqual(before, bench.journal())

    def test_use(self):
        self.refuse(benches.InUse, {"name": "b"}, "take_line", "a")
        self.refuse(benches.InUse, {"name": "c"}, "take_line", "b")
        bench = self.bench()
        bench.set_line("aa", ("then", "c", "b"))
        self.assert_raises(benches.InUse, {"name": "aa"}, bench.take_line, "b")
        self.assert_raises(benches.InUse, {"name": "b"}, bench.take_line, "a")
        bench.take_line("aa")
        bench.take_line("c")
        bench.take_line("b")
        bench.take_line("a")
        self.assertEqual((), bench.lines())

    def test_nothing_left(self):
        bench = Bench()
        self.assert_raises(benches.NothingLeft, {"name": None}, bench.undo)
        self.assert_raises(benches.NothingLeft, {"name": None}, bench.redo)
        bench.set_book("k", BOOK)
        self.assert_raises(benches.NothingLeft, {"name": None}, bench.redo)
        self.assert_answer(("set book", "k", (BOOK.tests, BOOK.states)), bench.undo)
        self.assert_raises(benches.NothingLeft, {"name": None}, bench.undo)
        self.assert_answer(("set book", "k", (BOOK.tests, BOOK.states)), bench.redo)
        bench.undo()
        bench.set_book("m", BOOK)
        self.assert_raises(benches.NothingLeft, {"name": None}, bench.redo)

    def test_errors(self):
        for name in ("BadWord", "NoLine", "NoBook", "NoRoom", "InUse", "Circle", "NothingLeft", "BadLine"):
            self.assertEqual((BenchError,), getattr(benches, name).__bases__)
        for error in (BenchError, BadEntry):
            self.assertEqual((ScoreError,), error.__bases__)

    def test_no_journals(self):
        for thing in (None, True, 0, "", "abc", {}, {0: 1}):
            self.assert_raises(BadEntry, {"number": None}, rebuilt, thing)
        for thing in ((), []):
            self.assertEqual((), rebuilt(thing).journal())
        good = ("set line", "a", ("bar", BAR))
        wrong = (
            None, 0, "", "ab", (), [], {}, {0: 1}, deep(44), ("set line", "a"), ("set line", "a", ("bar", BAR), 1), ("Set line", "a", ("bar", BAR)), (None, "a"),
            (["set line"], "a", ("bar", BAR)), ("set line", "A", ("bar", BAR)), ("set line", "b", ("bar", ())), ("take line", "b"), ("take line",), ("take line", ["a"]),
            ("take line", {}), ("exchange", "a", "b"), ("exchange", "a"), ("exchange", None, "a"), ("set book", "k", BOOK.tests), ("set book", "k", None), ("set book", "k", "ab"),
            ("set book", "k", (BOOK.tests, ())), ("set book", "k", (None, BOOK.states)), ("set book", "k", (BOOK.tests, BOOK.states, 0)), ("set book", 5, (BOOK.tests, BOOK.states)),
            ("take book", "k"), ("take book", deep(44)), ("undo",), ("redo",),
        )
        for entry in wrong:
            self.assert_raises(BadEntry, {"number": 1}, rebuilt, (good, entry, None))
            self.assert_raises(BadEntry, {"number": 0}, rebuilt, [entry, good])
        made = rebuilt([["set line", "a", ["bar", [[[1, 4], 0, [None]]]]], ["set book", "k", [[], [[]]]], ["exchange", "a", "a"]])
        self.assert_same(("set line", "a", ("bar", (((1, 4), 0, (None,)),))), made.journal()[0])
        self.assert_same(("set book", "k", ((), ((),))), made.journal()[1])


class Work(Case):
    def test_example(self):
        bench = Bench()
        bench.set_line("a", ("bar", BAR))
        bench.set_line("b", ("turn", "a", (0, 8)))
        bench.set_line("c", ("then", "a", "b"))
        bench.set_book("k", BOOK)
        self.assertEqual((1, 3, 4, 0), (bench.broken_count("c", "k"), bench.first_broken("c", "k"), bench.work(), bench.work()))
        bench.set_line("b", ("turn", "a", (0, 8)))
        self.assertEqual((1, 2), (bench.broken_count("c", "k"), bench.work()))
        bench.exchange("a", "b")
        self.assertEqual((("b", "a", "c"), ("turn", "b", (0, 8))), (bench.leads_to("c"), bench.rule("a")))
        self.assertEqual((("then", "b", "a"), 1, 0), (bench.rule("c"), bench.broken_count("c", "k"), bench.work()))

    def test_cuts_and_bars_want_none(self):
        bench = Bench()
        bench.set_line("a", ("bar", BAR))
        bench.set_line("t", ("times", "a", 10 ** 9))
        bench.set_line("s", ("cut", "t", 1, 10 ** 9))
        bench.set_line("p", ("pace", "s", (1, 2)))
        bench.set_book("k", BOOK)
        told = broken_count(bench.score("p"), BOOK)
        self.assertEqual((told, 2), (bench.broken_count("p", "k"), bench.work()))
        self.assertEqual((bench.broken_count("s", "k"), 0), (told, bench.work()))
        bench.broken_count("t", "k")
        self.assertEqual(2, bench.work())
        # A cut wants no table, but hangs on what it is cut from.
        bench.set_line("a", ("bar", BAR))
        bench.broken_count("p", "k")
        self.assertEqual(2, bench.work())

    def test_views(self):
        bench = Bench()
        bench.set_line("a", ("bar", BAR))
        bench.set_line("o", ("voices", "a", (1, 0)))
        bench.set_line("n", ("turn", "o", (0, 0)))
        bench.set_line("m", ("turn", "n", (0, 0)))
        bench.set_line("x", ("then", "m", "a"))
        bench.set_book("k", BOOK)
        bench.broken_count("m", "k")
        self.assertEqual(4, bench.work())
        bench.broken_count("o", "k")
        self.assertEqual(0, bench.work())
        bench.broken_count("x", "k")
        self.assertEqual(2, bench.work())
        bench.set_book("j", BOOK)
        bench.broken_count("x", "j")
        self.assertEqual(6, bench.work())
        bench.set_book("j", BOOK)
        bench.broken_count("x", "k")
        self.assertEqual(0, bench.work())
        bench.undo()
        # The same book stands behind the undoing as ahead of it.
        bench.broken_count("x", "j")
        self.assertEqual(6, bench.work())
        bench.set_book("j", ALL)
        bench.undo()
        bench.broken_count("x", "j")
        self.assertEqual(6, bench.work())

    def test_undo_and_redo(self):
        bench = Bench()
        for name in ("a", "b"):
            bench.set_line(name, ("bar", BAR))
        bench.set_line("c", ("times", "a", 3))
        bench.set_book("k", BOOK)
        for name in ("a", "b", "c"):
            bench.broken_count(name, "k")
        self.assertEqual(3, bench.work())
        # Equal rules: the exchange is undone without another rule at a or b, but c names another line.
        bench.exchange("a", "b")
        bench.undo()
        for name in ("a", "b"):
            bench.broken_count(name, "k")
        self.assertEqual(0, bench.work())
        bench.broken_count("c", "k")
        self.assertEqual(1, bench.work())
        bench.set_line("b", ("bar", BAR[:1]))
        bench.undo()
        bench.broken_count("c", "k")
        self.assertEqual(0, bench.work())
        bench.broken_count("b", "k")
        self.assertEqual(1, bench.work())
        bench.exchange("b", "b")
        bench.undo()
        bench.redo()
        bench.broken_count("b", "k")
        self.assertEqual(0, bench.work())

    def test_a_table_that_is_kept_may_be_asked_for_first(self):
        bench = Bench()
        bench.set_line("a", ("bar", BAR))
        for number in range(59):
            bench.set_line(f"l{number}", ("then", "a" if number == 0 else f"l{number - 1}", "a"))
        bench.set_book("k", BOOK)
        self.assertEqual(broken_count(bench.score("l58"), BOOK), bench.broken_count("l58", "k"))
        self.assertEqual(60, bench.work())
        bench.set_line("l30", ("then", "a", "a"))
        bench.broken_count("l58", "k")
        self.assertEqual(29, bench.work())


if __name__ == "__main__":
    unittest.main()

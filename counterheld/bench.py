"""Benches: scores and books by names, with edits that can be undone."""

from counterheld.benchlines import first_wrong, formed, leading, led, named, ordered, rules_of, with_names
from counterheld.benchtables import BenchTables, broken_first
from counterheld.books import BadBook, Book
from counterheld.errors import ScoreError
from counterheld.kinds import is_pair, is_row
from counterheld.scores import Score

MOST_LINES = 200
MOST_BOOKS = 8
MOST_LETTERS = 12
LETTERS = "abcdefghijklmnopqrstuvwxyz"
SIGNS = "abcdefghijklmnopqrstuvwxyz0123456789"


class BenchError(ScoreError):
    """An edit or a question that a bench refuses, and the name that it speaks of."""

    def __init__(self, name):
        ScoreError.__init__(self, "refused by the bench")
        self.name = name


class BadWord(BenchError):
    """What is no name."""


class NoLine(BenchError):
    """There is no such line."""


class NoBook(BenchError):
    """There is no such book."""


class NoRoom(BenchError):
    """There are as many lines, or books, as may be."""


class InUse(BenchError):
    """A line names the one that was to be taken away."""


class Circle(BenchError):
    """A line would lead to one that names it."""


class NothingLeft(BenchError):
    """There is nothing to be undone, or done again."""


class BadLine(BenchError):
    """A line whose rule would not be right, and the reason."""

    def __init__(self, name, reason):
        BenchError.__init__(self, name)
        self.reason = reason


class BadEntry(ScoreError):
    """What is no journal: the number of the first wrong entry, or None."""

    def __init__(self, number):
        ScoreError.__init__(self, "no entry of a journal")
        self.number = number


class Bench:
    """Lines and books by their names."""

    def __init__(self):
        # The pair of all lines and all books behind each number of edits, and the edits; done tells how many are done.
        # Scores that were made of lines are kept as long as nothing changes on which they hang.
        self.stages = [({}, {})]
        self.edits = []
        self.done = 0
        self.reckoner = BenchTables()
        self.made = {}

    def _lines(self):
        return self.stages[self.done][0]

    def _books(self):
        return self.stages[self.done][1]

    def _do(self, edit, lines, books):
        """Does an edit that leads to these lines and books; what was undone cannot be done again."""
        self.stages = self.stages[:self.done + 1] + [(lines, books)]
        self.edits = self.edits[:self.done] + [edit]
        self.done += 1

    def _drop_lines(self, names):
        """Drops what hangs on lines that are set or taken away: these are some of them, and all that lead to them."""
        self.reckoner.drop_lines(names)
        self.made = {name: self.made[name] for name in self.made if name not in names}

    def _check_line(self, name):
        if not isinstance(name, str) or name not in self._lines():
            raise NoLine(name)

    def _check_book(self, name):
        if not isinstance(name, str) or name not in self._books():
            raise NoBook(name)

    def set_line(self, name, rule):
        lines = self._lines()
        check_name(name, lines, MOST_LINES)
        told, reason = formed(rule)
        if reason is not None:
            raise BadLine(name, reason)
        for other in named(told):
            self._check_line(other)
        if name in led(lines, list(named(told))):
            raise Circle(name)
        following = {other: lines[other] for other in lines}
        following[name] = told
        wrong, reason, right = first_wrong(following, name)
        if reason is not None:
            raise BadLine(wrong, reason)
        following[name] = right
        self._drop_lines(leading(following, [name]))
        self._do(("set line", name, right), following, self._books())

    def take_line(self, name):
        self._check_line(name)
        lines = self._lines()
        for other in sorted(lines):
            if name in named(lines[other]):
                raise InUse(other)
        self._drop_lines({name: True})
        self._do(("take line", name), {other: lines[other] for other in lines if other != name}, self._books())

    def exchange(self, one, other):
        self._check_line(one)
        self._check_line(other)
        lines = self._lines()
        names = {name: name for name in lines}
        names[one], names[other] = other, one
        self.reckoner.rename(names)
        # The lines to which a line leads may stand in another order now.
        self.made = {}
        following = {names[name]: with_names(lines[name], names) for name in lines}
        self._do(("exchange", one, other), following, self._books())

    def set_book(self, name, book):
        books = self._books()
        check_name(name, books, MOST_BOOKS)
        following = {other: books[other] for other in books}
        following[name] = book
        self.reckoner.drop_book(name)
        self._do(("set book", name, (book.tests, book.states)), self._lines(), following)

    def take_book(self, name):
        self._check_book(name)
        books = self._books()
        self.reckoner.drop_book(name)
        self._do(("take book", name), self._lines(), {other: books[other] for other in books if other != name})

    def undo(self):
        """Undoes the last edit, and returns it."""
        if self.done == 0:
            raise NothingLeft(None)
        self._go_to(self.done - 1)
        return self.edits[self.done]

    def redo(self):
        """Does again the edit that was undone last, and returns it."""
        if self.done == len(self.edits):
            raise NothingLeft(None)
        self._go_to(self.done + 1)
        return self.edits[self.done - 1]

    def _go_to(self, done):
        lines, books = self.stages[self.done]
        lines_there, books_there = self.stages[done]
        changed = unlike(lines, lines_there)
        self._drop_lines(leading(lines, changed))
        self._drop_lines(leading(lines_there, changed))
        said = {name: (book.tests, book.states) for name, book in books.items()}
        said_there = {name: (book.tests, book.states) for name, book in books_there.items()}
        for name in unlike(said, said_there):
            self.reckoner.drop_book(name)
        self.done = done

    def journal(self):
        """The edits that are done."""
        return tuple(self.edits[:self.done])

    def lines(self):
        """The names of the lines, ascending."""
        return tuple(sorted(self._lines()))

    def books(self):
        """The names of the books, ascending."""
        return tuple(sorted(self._books()))

    def rule(self, name):
        self._check_line(name)
        return self._lines()[name]

    def book(self, name):
        self._check_book(name)
        return self._books()[name]

    def leads_to(self, name):
        """The lines to which a line leads, in their order."""
        self._check_line(name)
        return tuple(ordered(self._lines(), led(self._lines(), [name])))

    def voices_of(self, name):
        return self.score(name).voices

    def length(self, name):
        """How many columns a line has."""
        return self.score(name).count

    def duration_of(self, name):
        return self.score(name).duration

    def score(self, name):
        """The score whose rules are those of the lines to which a line leads."""
        self._check_line(name)
        if name not in self.made:
            self.made[name] = Score(rules_of(self._lines(), name))
        return self.made[name]

    def broken_count(self, name, book):
        """How many columns of a line a book breaks."""
        self._check_line(name)
        self._check_book(book)
        return self.reckoner.broken_count(self, name, book)

    def first_broken(self, name, book):
        """The first column of a line that a book breaks, or None."""
        self._check_line(name)
        self._check_book(book)
        return broken_first(self.score(name), self.book(book))

    def work(self):
        """How many tables were reckoned since this was last told."""
        return self.reckoner.told_work()


def check_name(name, there, most):
    """Raises BadWord for what is no name, and NoRoom for a new one where there are as many as may be."""
    if not isinstance(name, str) or not 1 <= len(name) <= MOST_LETTERS or name[0] not in LETTERS:
        raise BadWord(name)
    if not all([sign in SIGNS for sign in name]):
        raise BadWord(name)
    if name not in there and len(there) >= most:
        raise NoRoom(name)


def unlike(one, other):
    """The names that stand for different things in two dicts, or in one of them alone."""
    told = [name for name in one if name not in other or one[name] != other[name]]
    return told + [name for name in other if name not in one]


# For each word of an entry how many things it has.
ENTRIES = {"set line": 3, "take line": 2, "exchange": 3, "set book": 3, "take book": 2}


def rebuilt(journal):
    """A bench in which the edits of a journal were done."""
    if not is_row(journal):
        raise BadEntry(None)
    bench = Bench()
    for number, entry in enumerate(journal):
        if not is_entry(entry):
            raise BadEntry(number)
        try:
            do_entry(bench, entry)
        except (BenchError, BadBook):
            raise BadEntry(number) from None
    return bench


def is_entry(thing):
    """Whether it has the form of an entry, whatever it is; what it names may be wrong."""
    if not is_row(thing) or len(thing) == 0 or not isinstance(thing[0], str) or thing[0] not in ENTRIES:
        return False
    if len(thing) != ENTRIES[thing[0]]:
        return False
    return thing[0] != "set book" or is_pair(thing[2])


def do_entry(bench, entry):
    if entry[0] == "set line":
        bench.set_line(entry[1], entry[2])
    elif entry[0] == "take line":
        bench.take_line(entry[1])
    elif entry[0] == "exchange":
        bench.exchange(entry[1], entry[2])
    elif entry[0] == "take book":
        bench.take_book(entry[1])
    else:
        tests, states = entry[2]
        bench.set_book(entry[1], Book(tests, states))

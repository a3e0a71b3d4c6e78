"""A bench the slow and plain way: all is worked out anew from the lines each time it is asked."""

from counterheld.books import BadBook, Book
from counterheld.columns import BadColumn, check_bar
from counterheld.scores import BadScore, Score

NAMED = {"bar": 0, "then": 2, "times": 1, "raise": 1, "turn": 1, "pace": 1, "voices": 1, "cut": 1}
SIZES = {"bar": 2, "then": 3, "times": 3, "raise": 3, "turn": 3, "pace": 3, "voices": 3, "cut": 4}


class Refused(Exception):
    """What is to be raised: the name of the class, and the attributes."""

    def __init__(self, error, name, reason=None):
        Exception.__init__(self, error, name, reason)
        self.told = (error, name, reason)


def is_name(thing):
    if type(thing) is not str or not 1 <= len(thing) <= 12:
        return False
    return thing[0] in "abcdefghijklmnopqrstuvwxyz" and all(sign in "abcdefghijklmnopqrstuvwxyz0123456789" for sign in thing)


def tuples(thing):
    return tuple(tuples(part) for part in thing) if isinstance(thing, (list, tuple)) else thing


def names_in(rule):
    return rule[1:1 + NAMED[rule[0]]]


class PlainBench:
    def __init__(self):
        self.lines, self.books = {}, {}
        self.undone, self.done = [], []
        self.kept = set()
        self.work = 0

    def leads(self, name, lines=None):
        lines = self.lines if lines is None else lines
        told = {name}
        while True:
            more = {other for one in told if one in lines for other in names_in(lines[one])} | told
            if more == told:
                return told
            told = more

    def in_order(self, names, lines=None):
        lines, left, told = self.lines if lines is None else lines, set(names), []
        while left:
            ready = min(name for name in left if not any(other in left for other in names_in(lines[name])))
            told.append(ready)
            left.remove(ready)
        return tuple(told)

    def rules(self, name, lines=None):
        lines = self.lines if lines is None else lines
        order = self.in_order(self.leads(name, lines), lines)
        told = []
        for other in order:
            rule = lines[other]
            many = NAMED[rule[0]]
            told.append(rule[:1] + tuple(order.index(one) for one in rule[1:1 + many]) + rule[1 + many:])
        return tuple(told)

    def check_line(self, name):
        if type(name) is not str or name not in self.lines:
            raise Refused("NoLine", name)

    def check_book(self, name):
        if type(name) is not str or name not in self.books:
            raise Refused("NoBook", name)

    def drop(self, changed, lines):
        """Drops the tables of the lines that lead to one of some lines."""
        self.kept = {key for key in self.kept if not self.leads(key[0], lines) & set(changed)}

    def do(self, entry, lines, books):
        self.done.append((entry, (self.lines, self.books)))
        self.undone = []
        self.lines, self.books = lines, books

    def set_line(self, name, rule):
        if not is_name(name):
            raise Refused("BadWord", name)
        if name not in self.lines and len(self.lines) >= 200:
            raise Refused("NoRoom", name)
        if not isinstance(rule, (list, tuple)) or not rule or type(rule[0]) is not str or SIZES.get(rule[0]) != len(rule):
            raise Refused("BadLine", name, "word")
        if rule[0] == "bar":
            try:
                rule = ("bar", check_bar(rule[1]))
            except BadColumn:
                raise Refused("BadLine", name, "bar") from None
        for other in names_in(rule):
            self.check_line(other)
        for other in names_in(rule):
            if name in self.leads(other):
                raise Refused("Circle", name)
        lines = {**self.lines, name: tuples(rule)}
        for other in self.in_order([one for one in lines if name in self.leads(one, lines)], lines):
            if len(self.leads(other, lines)) > 60:
                raise Refused("BadLine", other, "many")
            try:
                Score(self.rules(other, lines))
            except BadScore as wrong:
                raise Refused("BadLine", other, wrong.reason) from None
        self.drop([name], lines)
        self.do(("set line", name, tuples(rule)), lines, self.books)

    def take_line(self, name):
        self.check_line(name)
        for other in sorted(self.lines):
            if name in names_in(self.lines[other]):
                raise Refused("InUse", other)
        self.drop([name], self.lines)
        self.do(("take line", name), {one: rule for one, rule in self.lines.items() if one != name}, self.books)

    def exchange(self, one, other):
        self.check_line(one)
        self.check_line(other)

        def new(name):
            return other if name == one else one if name == other else name

        lines = {}
        for name, rule in self.lines.items():
            many = NAMED[rule[0]]
            lines[new(name)] = rule[:1] + tuple(new(told) for told in rule[1:1 + many]) + rule[1 + many:]
        self.kept = {(new(name), book, view) for name, book, view in self.kept}
        self.do(("exchange", one, other), lines, self.books)

    def set_book(self, name, book):
        if not is_name(name):
            raise Refused("BadWord", name)
        if name not in self.books and len(self.books) >= 8:
            raise Refused("NoRoom", name)
        self.kept = {key for key in self.kept if key[1] != name}
        self.do(("set book", name, (book.tests, book.states)), self.lines, {**self.books, name: (book.tests, book.states)})

    def take_book(self, name):
        self.check_book(name)
        self.kept = {key for key in self.kept if key[1] != name}
        self.do(("take book", name), self.lines, {one: book for one, book in self.books.items() if one != name})

    def go(self, there, back):
        """Goes to what stands in the one row, and puts into the other one how to go back."""
        if not there:
            raise Refused("NothingLeft", None)
        entry, (lines, books) = there.pop()
        back.append((entry, (self.lines, self.books)))
        changed = [name for name in {**lines, **self.lines} if lines.get(name) != self.lines.get(name)]
        self.drop(changed, self.lines)
        self.kept = {key for key in self.kept if key[0] in lines}
        self.drop(changed, lines)
        books_changed = [name for name in {**books, **self.books} if books.get(name) != self.books.get(name)]
        self.kept = {key for key in self.kept if key[1] not in books_changed}
        self.lines, self.books = lines, books
        return entry

    def undo(self):
        return self.go(self.done, self.undone)

    def redo(self):
        return self.go(self.undone, self.done)

    def journal(self):
        return tuple(entry for entry, _ in self.done)

    def want(self, name, book, view):
        """Counts the tables that are wanted and not kept, and keeps them."""
        if (name, book, view) not in self.kept:
            self.kept.add((name, book, view))
            self.work += 1
        rule = self.lines[name]
        sign, order = view
        if rule[0] == "cut":
            return
        if rule[0] == "turn":
            sign = -sign
        if rule[0] == "voices":
            order = tuple(rule[2][v] for v in order)
        for other in names_in(rule):
            self.want(other, book, (sign, order))

    def asked(self, name, book):
        """What broken_count asks for."""
        self.check_line(name)
        self.check_book(book)
        voices = Score(self.rules(name)).voices
        self.want(name, book, (1, tuple(range(voices))))

    def told_work(self):
        told, self.work = self.work, 0
        return told


def replayed(journal):
    """The plain bench of a journal, or the number of the first entry that is none or is refused, None for no row."""
    if not isinstance(journal, (list, tuple)):
        return None, False
    bench = PlainBench()
    words = {"set line": 3, "take line": 2, "exchange": 3, "set book": 3, "take book": 2}
    for number, entry in enumerate(journal):
        if not isinstance(entry, (list, tuple)) or not entry or type(entry[0]) is not str or words.get(entry[0]) != len(entry):
            return number, False
        try:
            if entry[0] == "set book":
                if not isinstance(entry[2], (list, tuple)) or len(entry[2]) != 2:
                    return number, False
                bench.set_book(entry[1], Book(*entry[2]))
            else:
                getattr(bench, entry[0].replace(" ", "_"))(*entry[1:])
        except (Refused, BadBook):
            return number, False
    return bench, True

"""Tables of the lines of a bench, kept as long as nothing changes on which they hang."""

from counterheld.benchlines import named
from counterheld.broken import first_broken
from counterheld.tables import Tables, tables_of
from counterheld.views import plain_view, view_below


class BenchTables:
    """For each pair of names of a line and a book a dict from views to the table of the line, with its end columns."""

    def __init__(self):
        self.tables = {}
        self.reckoned = 0

    def drop_lines(self, names):
        self.tables = {pair: self.tables[pair] for pair in self.tables if pair[0] not in names}

    def drop_book(self, name):
        self.tables = {pair: self.tables[pair] for pair in self.tables if pair[1] != name}

    def rename(self, names):
        """Gives all lines the names that the dict has for theirs."""
        self.tables = {(names[line], book): self.tables[(line, book)] for line, book in self.tables}

    def told_work(self):
        """How many tables were reckoned since this was last told."""
        told = self.reckoned
        self.reckoned = 0
        return told

    def broken_count(self, bench, name, book):
        """How many columns of a line of the bench a book breaks."""
        reckoning = Reckoning(bench, bench.book(book), book, self.tables)
        first, _, table = reckoning.wanted(name, plain_view(bench.voices_of(name)))
        self.reckoned += reckoning.fresh
        state, broken = reckoning.fold.begun(first)
        return table[state][1] + int(broken)


class Reckoning:
    """Reckons the tables that are wanted and not kept, and keeps them."""

    def __init__(self, bench, book, name, tables):
        self.bench = bench
        self.reader = book
        self.reader_name = name
        self.tables = tables
        # It is asked only for what belongs to columns that are known, and no plan is needed for this.
        self.fold = Tables(None, book.steps)
        self.fresh = 0

    def wanted(self, name, view):
        """The table of all columns of a line seen in a view, with the first and the last column."""
        kept = self.tables.setdefault((name, self.reader_name), {})
        if view not in kept:
            kept[view] = self._reckoned(name, view)
            self.fresh += 1
        return kept[view]

    def _reckoned(self, name, view):
        rule = self.bench.rule(name)
        if rule[0] == "bar":
            return self.fold.of_columns(rule[1], view)
        if rule[0] == "cut":
            whole = self.bench.score(name)
            return tables_of(whole, self.reader).of_score(view)
        told = [self.wanted(other, view_below(rule, view)) for other in named(rule)]
        if rule[0] == "then":
            return self.fold.joined(told[0], told[1])
        if rule[0] == "times":
            return self.fold.many_times(told[0], rule[2])
        return self.fold.changed(told[0], rule, view)


def broken_first(score, book):
    """The first column of a score that a book breaks, or None; no table of the bench is wanted for it."""
    return first_broken(score, book)

"""Papers about the broken columns of a score: tables of parts, each with the reason why it is right."""

from counterheld.folds import half_of
from counterheld.judging import PaperJudge
from counterheld.kinds import is_whole
from counterheld.moments import NoColumn
from counterheld.scores import BadScore
from counterheld.tables import tables_of
from counterheld.views import plain_view, view_below


def table_of(score, book, rule, first, stop, view):
    """The table of the columns from first up to stop that a rule makes, seen in a view."""
    plan = score.plan
    if not is_whole(rule, 0, plan.last()):
        raise BadScore(rule, "rule")
    if not 0 <= first < plan.sizes[rule]:
        raise NoColumn(first)
    if not first < stop <= plan.sizes[rule]:
        raise NoColumn(stop)
    sign, order = view
    return tables_of(score, book).of(rule, first, stop, (sign, tuple(order)))[2]


def paper_of(score, book):
    """A paper that shows how many columns are broken."""
    writer = PaperWriter(tables_of(score, book))
    last = score.plan.last()
    writer.row_of(last, 0, score.count, plain_view(score.voices))
    return tuple(writer.rows)


def shows(score, book, paper, number):
    """Whether the paper shows that so many columns are broken, whatever both are."""
    judge = PaperJudge(score, book)
    return judge.is_right(paper) and is_whole(number, 0, score.count) and judge.shown(paper) == number


class PaperWriter:
    """Writes the rows of a paper; a row about the same columns in the same view is written once."""

    def __init__(self, tables):
        self.tables = tables
        self.plan = tables.plan
        self.rows = []
        # What the tables tell of each row: its first column, its last one and its table.
        self.told = []
        self.numbers = {}

    def row_of(self, rule, first, stop, view):
        """The number of the row about these columns in this view."""
        key = (rule, first, stop, view)
        if key not in self.numbers:
            self._write_parts(key)
        return self.numbers[key]

    def _put(self, key, told, reason):
        """Puts a row, if there is none about the same, and returns its number."""
        if key not in self.numbers:
            rule, first, stop, view = key
            self.numbers[key] = len(self.rows)
            self.rows.append((rule, first, stop, view, told[2], reason))
            self.told.append(told)
        return self.numbers[key]

    def _write_parts(self, key):
        rule, first, stop, view = key
        if self.plan.rules[rule][0] == "bar":
            self._put(key, self.tables.of(rule, first, stop, view), ("bar",))
            return
        whole, at = None, first
        for piece in self.plan.pieces(rule, first, stop):
            row = self._piece(rule, at, piece, view)
            whole = row if whole is None else self._join(whole, row)
            at = self.rows[row][2]

    def _piece(self, rule, at, piece, view):
        """The number of the row about the piece (rule below, first, stop, how often) of the rule, from at on."""
        i, begin, end, many = piece
        if many > 1:
            return self._copies(rule, at, end, many, view)
        key = (rule, at, at + end - begin, view)
        if key in self.numbers:
            return self.numbers[key]
        below = self.row_of(i, begin, end, view_below(self.plan.rules[rule], view))
        return self._put(key, self._changed(below, rule, view), ("within", below))

    def _changed(self, row, rule, view):
        return self.tables.changed(self.told[row], self.plan.rules[rule], view)

    def _join(self, one, other):
        rule, first, _, view, _, _ = self.rows[one]
        key = (rule, first, self.rows[other][2], view)
        if key in self.numbers:
            return self.numbers[key]
        return self._put(key, self.tables.joined(self.told[one], self.told[other]), ("join", one, other))

    def _copies(self, rule, at, size, many, view):
        """The number of the row about so many copies, each of so many columns, that the rule makes from at on."""
        whole = None
        while many > 0:
            part = half_of(many + 1)
            row = self._again(self._first_copies(rule, size, part, view), at)
            whole = row if whole is None else self._join(whole, row)
            many -= part
            at += part * size
        return whole

    def _first_copies(self, rule, size, many, view):
        """The number of the row about the first copies, as many as a power of two."""
        row = self._piece(rule, 0, (self.plan.rules[rule][1], 0, size, 1), view)
        done = 1
        while done < many:
            row = self._join(row, self._again(row, done * size))
            done = done * 2
        return row

    def _again(self, row, at):
        """The number of the row that says the same as the row, but of the copies from at on."""
        rule, first, stop, view, _, _ = self.rows[row]
        return self._put((rule, at, at + stop - first, view), self.told[row], ("again", row))

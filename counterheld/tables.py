"""Tables of a book: what it does in the parts of a score, from each of its states."""

from counterheld.columns import paced, raised
from counterheld.marks import Marks
from counterheld.steps import silence, table_behind
from counterheld.views import plain_view, seen, view_below


class Tables(Marks):
    """The tables of a book; the way is a view, and a column is marked if it is broken.

    Told is (the first column, the last one, the table), the columns as they are seen in the view.
    """

    def __init__(self, plan, steps):
        Marks.__init__(self, plan)
        self.steps = steps

    def of_columns(self, columns, way):
        told = seen(columns, way)
        return (told[0], told[-1], self.steps.table(told))

    def joined(self, one, other):
        table = self.steps.through(one[2], self.steps.step(one[1], other[0]))
        return (one[0], other[1], table_behind(table, other[2]))

    def of_copies(self, number, first, stop, way, many):
        return self.by_halves(number, first, stop, way, many)

    def many_times(self, one, many):
        told = None
        while many > 0:
            if many % 2 == 1:
                told = one if told is None else self.joined(told, one)
            one = self.joined(one, one)
            many = many // 2
        return told

    def way_below(self, rule, way):
        return view_below(rule, way)

    def changed(self, one, rule, way):
        ends = one[:2]
        if rule[0] in ("raise", "turn"):
            # Seen upside down, what is raised is lowered; a turn is one of the view, and raises by the rest.
            sign = way[0]
            ends = raised(ends, (sign * rule[2][0], sign * rule[2][1]))
        if rule[0] == "pace":
            ends = paced(ends, rule[2])
        return (ends[0], ends[1], one[2])

    def passed(self, whole, state):
        return whole[2][state]

    def met(self, one, other, state):
        return self.steps.step(one[1], other[0])[state]

    def begun(self, first):
        """The pair (state, broken) of the book behind a first column."""
        return self.steps.step(silence(len(first[2])), first)[0]


def tables_of(score, book):
    """The tables of a book about a score."""
    fold = score.plan.kept(book)
    return score.plan.keep(book, Tables(score.plan, book.steps)) if fold is None else fold


def behind(score, book, stop):
    """The pair of the state of the book behind the columns ahead of stop and how many of them are broken."""
    if stop == 0:
        return (0, 0)
    tables = tables_of(score, book)
    first, _, table = tables.of(score.plan.last(), 0, stop, plain_view(score.voices))
    state, broken = tables.begun(first)
    following, many = table[state]
    return (following, many + int(broken))

"""Judging papers about broken columns, row by row."""

from counterheld.kinds import is_whole
from counterheld.steps import silence, table_behind
from counterheld.tables import tables_of
from counterheld.views import is_view, plain_view, seen_column, view_below

MOST_ROWS = 10 ** 6
# For each word how many things a reason has.
REASONS = {"one": 1, "bar": 1, "join": 3, "within": 2, "again": 2}


class PaperJudge:
    """Judges papers about the columns of a score that a book breaks."""

    def __init__(self, score, book):
        self.whole = score
        self.plan = score.plan
        self.steps = book.steps
        self.tables = tables_of(score, book)
        self.joints = {}
        self.latest = (None, None)

    def shown(self, paper):
        """The number of broken columns that a right paper shows."""
        column = self._column(self.plan.last(), 0, plain_view(self.whole.voices))
        state, broken = self.steps.step(silence(self.whole.voices), column)[0]
        return paper[-1][4][state][1] + int(broken)

    def is_right(self, paper):
        """Whether it is a paper whose rows are founded, the last one about the score as it is; whatever it is."""
        if not isinstance(paper, tuple) or not 1 <= len(paper) <= MOST_ROWS:
            return False
        for number, row in enumerate(paper):
            if not self._is_row(row) or not self._is_founded(paper, number):
                return False
        return paper[-1][:4] == (self.plan.last(), 0, self.whole.count, plain_view(self.whole.voices))

    def _is_row(self, row):
        if not isinstance(row, tuple) or len(row) != 6:
            return False
        rule, first, stop, view, table, reason = row
        if not is_whole(rule, 0, self.plan.last()):
            return False
        if not is_whole(stop, 1, self.plan.sizes[rule]) or not is_whole(first, 0, stop - 1):
            return False
        if not is_view(view, self.whole.voices) or not _is_table(table):
            return False
        return isinstance(reason, tuple) and len(reason) > 0 and isinstance(reason[0], str)

    def _is_founded(self, paper, number):
        """Whether the reason of a row, which is one by its form, says rightly so; the earlier rows are right."""
        row = paper[number]
        reason = row[5]
        if reason[0] not in REASONS or len(reason) != REASONS[reason[0]]:
            return False
        for earlier in reason[1:]:
            if not is_whole(earlier, 0, number - 1):
                return False
        word = reason[0]
        if word == "one":
            return row[2] == row[1] + 1 and row[4] == self.steps.no_move()
        if word == "bar":
            rule, first, stop, view = row[:4]
            return self.plan.rules[rule][0] == "bar" and row[4] == self.tables.of(rule, first, stop, view)[2]
        if word == "join":
            return self._is_join(row, paper[reason[1]], paper[reason[2]])
        if word == "within":
            return self._is_within(row, paper[reason[1]])
        return self._is_again(row, paper[reason[1]])

    def _is_join(self, row, one, other):
        rule, first, stop, view, table, _ = row
        middle = one[2]
        if one[:4] != (rule, first, middle, view) or other[:4] != (rule, middle, stop, view):
            return False
        return table == table_behind(self.steps.through(one[4], self._joint(rule, middle, view)), other[4])

    def _joint(self, rule, middle, view):
        """The step into the column middle of the rule from the one ahead of it, seen in the view."""
        key = (rule, middle, view)
        if key not in self.joints:
            before = self._column(rule, middle - 1, view)
            self.joints[key] = self.steps.step(before, self._column(rule, middle, view))
        return self.joints[key]

    def _column(self, rule, number, view):
        """The column with the number that the rule makes, seen in the view."""
        key = (rule, number, view)
        # The column behind one joint is mostly the one ahead of the next joint.
        if self.latest[0] != key:
            self.latest = (key, seen_column(self.plan, rule, number, view))
        return self.latest[1]

    def _is_within(self, row, one):
        number, first, stop, view, table, _ = row
        rule = self.plan.rules[number]
        if rule[0] == "bar":
            return False
        pieces = self.plan.pieces(number, first, stop)
        if len(pieces) > 1 or pieces[0][3] > 1:
            return False
        i, begin, end, _ = pieces[0]
        return one[:5] == (i, begin, end, view_below(rule, view), table)

    def _is_again(self, row, one):
        number, first, stop, view, table, _ = row
        rule = self.plan.rules[number]
        if rule[0] != "times" or one[0] != number or one[3] != view or one[4] != table:
            return False
        return stop - first == one[2] - one[1] and (first - one[1]) % self.plan.sizes[rule[1]] == 0


def _is_table(thing):
    """Whether it is a row of pairs of numbers, all of tuples; whether they are the right ones is asked elsewhere."""
    if not isinstance(thing, tuple):
        return False
    for pair in thing:
        if not isinstance(pair, tuple) or len(pair) != 2:
            return False
        state, many = pair
        # True would be equal to 1.
        if type(state) != int or type(many) != int:
            return False
    return True

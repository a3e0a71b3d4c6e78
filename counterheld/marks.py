"""Columns of a score that are marked: how many there are, and where each of them is."""

from counterheld.folds import Fold, half_of


class Marks(Fold):
    """A fold that tells of columns how many of those behind the first one are marked.

    Whether a column is marked hangs on the column ahead of it and on a state, and it may lead to another state.
    A class below tells how, and what the state is.
    """

    def passed(self, whole, state):
        """The state behind columns and how many of them but the first are marked, from the state behind the first."""
        raise NotImplementedError("a class below tells it")

    def met(self, one, other, state):
        """The state behind the first column of other, which follows one, and whether it is marked."""
        raise NotImplementedError("a class below tells it")

    def marked_at(self, way, state, skip):
        """The marked column of the score with skip marked ones between the first column and it.

        The state is the one behind the first column; there must be such a marked column.
        """
        last = self.plan.last()
        parts, at = [(last, 0, self.plan.sizes[last], 1)], 0
        while True:
            before = None
            for part in parts:
                whole = self.of_copies(part[0], part[1], part[2], way, part[3])
                if before is not None:
                    state, marked = self.met(before, whole, state)
                    if marked and skip == 0:
                        return at
                    skip -= int(marked)
                behind, many = self.passed(whole, state)
                if skip < many:
                    break
                before, state, skip = whole, behind, skip - many
                at += (part[2] - part[1]) * part[3]
            parts, way = self._opened(part, way)

    def _opened(self, part, way):
        """The parts (rule, first, stop, how often) of which a part is made, and the way in which they are asked."""
        number, first, stop, many = part
        if many > 1:
            half = half_of(many)
            return [(number, first, stop, half), (number, first, stop, many - half)], way
        rule = self.plan.rules[number]
        if rule[0] == "bar":
            return [(number, k, k + 1, 1) for k in range(first, stop)], way
        return self.plan.pieces(number, first, stop), self.way_below(rule, way)

"""Walks over rows of columns that are knotted, from item to item of a level."""

from counterheld.shifts import STILL


class Walk:
    """A place in a row: an item of a level, and the way to it from the item of the whole row.

    The item is None when the walk has come to an end of the row. Begin tells how many columns are ahead of the item.
    The way has (item, the number of the part that is gone into, how many columns are ahead of the item). What is taken
    is told in bunches (item, how often it comes, the shift from each time to the next one).
    """

    def __init__(self, knots, whole, at, level):
        """The walk begins at the item of the level in which the column at lies."""
        self.knots = knots
        self.item = whole
        self.begin = 0
        self.way = []
        while knots.levels[self.item[0]] > level:
            number, ahead = knots.part_with(self.item, at - self.begin)
            self._go_into(number, ahead)

    def _go_into(self, number, ahead):
        """Goes into the part with the number, ahead of which there are so many columns of the item."""
        self.way.append((self.item, number, self.begin))
        self.item = self.knots.part_of(self.item, number)
        self.begin += ahead

    def end(self):
        """How many columns there are up to the end of the item."""
        return self.begin + self.knots.lengths[self.item[0]]

    def forward(self, level):
        """Goes to the next item of the level, or to the end."""
        end = self.end()
        while self.way:
            self.item, number, self.begin = self.way.pop()
            if number + 1 < self.knots.counts_of_parts[self.item[0]]:
                self._go_into(number + 1, end - self.begin)
                while self.knots.levels[self.item[0]] > level:
                    self._go_into(0, 0)
                return
        self.item = None

    def backward(self, level):
        """Goes to the item of the level ahead, or to the end there."""
        begin = self.begin
        while self.way:
            self.item, number, self.begin = self.way.pop()
            if number > 0:
                self._go_back_into(number - 1, begin)
                while self.knots.levels[self.item[0]] > level:
                    self._go_back_into(self.knots.counts_of_parts[self.item[0]] - 1, begin)
                return
        self.item = None

    def _go_back_into(self, number, end):
        """Goes into the part with the number, which ends behind so many columns."""
        self.way.append((self.item, number, self.begin))
        self.item = self.knots.part_of(self.item, number)
        self.begin = end - self.knots.lengths[self.item[0]]

    def _is_inner(self, level):
        """Whether the item is one of the parts of an item of the level, rather than such an item itself."""
        return len(self.way) > 0 and self.knots.levels[self.way[-1][0][0]] == level

    def rise(self, level):
        """Goes to the item of the level, one higher than before, in which the item is."""
        if self.item is not None and self._is_inner(level):
            self.item, _, self.begin = self.way.pop()

    def take_front(self, level, end):
        """Takes bunches up to an item with which one of the level begins, whatever stood ahead of what is taken.

        The items are of one level less, and lie ahead of the column end.
        """
        told, many = [], 0
        while self.item is not None and (many < 2 or (self._is_inner(level) and self.way[-1][1] > 0)):
            told.append(self.bunch(level, end))
            many += told[-1][1]
        return told

    def take_back(self, level, first):
        """Takes bunches back to an item with which one of the level ends, whatever stood behind what is taken.

        The items are of one level less, and lie from the column first on.
        """
        told, many = [], 0
        # Where a run begins is told by items ahead of it, and where a block begins by the next item, too.
        least = 2 - level % 2
        while self.item is not None and (many < least or not self._is_last(level)):
            told.append(self._bunch_back(level, first))
            many += told[-1][1]
        return told[::-1]

    def _is_last(self, level):
        if not self._is_inner(level):
            return True
        item, number, _ = self.way[-1]
        return number == self.knots.counts_of_parts[item[0]] - 1

    def bunch(self, level, end):
        """The bunch of this item and those behind in a run of the level, ahead of the column end; goes on behind it."""
        told = (self.item, 1, STILL)
        if level % 2 == 1 and self._is_inner(level):
            run, number, _ = self.way[-1]
            size = self.end() - self.begin
            many = min(self.knots.counts_of_parts[run[0]] - number, (end - self.begin) // size)
            told = (self.item, many, self.knots.steps[run[0]])
            self._go_along(number + many - 1, (many - 1) * size)
        if self.end() == end:
            self.item = None
        else:
            self.forward(level - 1)
        return told

    def _bunch_back(self, level, first):
        """The bunch of this item and those ahead in a run of the level, from the column first on; goes back."""
        told = (self.item, 1, STILL)
        if level % 2 == 1 and self._is_inner(level):
            run, number, _ = self.way[-1]
            size = self.end() - self.begin
            many = min(number + 1, (self.end() - first) // size)
            self._go_along(number - many + 1, (1 - many) * size)
            told = (self.item, many, self.knots.steps[run[0]])
        if self.begin == first:
            self.item = None
        else:
            self.backward(level - 1)
        return told

    def _go_along(self, number, ahead):
        """Goes to the part with the number of the run in which the item is, so many columns on."""
        run, _, begin = self.way.pop()
        self.way.append((run, number, begin))
        self.item = self.knots.part_of(run, number)
        self.begin += ahead

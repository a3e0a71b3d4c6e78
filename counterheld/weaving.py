"""Rows of columns put behind one another, many times over, and cut, so that equal rows become equal items."""

from counterheld.knots import Knots
from counterheld.shifts import STILL, back, from_to
from counterheld.walks import Walk

# So many copies are knotted one by one; of more of them only so many.
FEW = 5


class Weave(Knots):
    """Knots with what is done to whole rows, each told by its item.

    Only what lies around the ends of rows is knotted anew: level by level, as much as may be knotted otherwise because
    of what stands ahead or behind now.
    """

    def __init__(self):
        Knots.__init__(self)
        self.known = {}

    def joined(self, one, other):
        """The row one with the row other behind it."""
        base = self._base(one, other)
        # What is kept of rows serves all that are shifted alike.
        key = (self.placed(one[0], from_to(base, one[1])), self.placed(other[0], from_to(base, other[1])))
        if key not in self.known:
            self.known[key] = self.shifted(self._joined(one, other), back(base))
        return self.shifted(self.known[key], base)

    def _base(self, one, other):
        """The shift from which those of two rows, and of both together, are told."""
        if self.mutes[one[0]] and not self.mutes[other[0]]:
            return other[1][:2] + one[1][2:]
        return one[1]

    def _joined(self, one, other):
        left = Walk(self, one, self.lengths[one[0]] - 1, 0)
        right = Walk(self, other, 0, 0)
        end = self.lengths[other[0]]
        between, level = [], 0
        while left.item is not None or right.item is not None:
            level += 1
            between = left.take_back(level, 0) + between + right.take_front(level, end)
            between = self.gathered(between, left.item, right.item, level)
            left.rise(level)
            right.rise(level)
        return self.finished(between, level)

    def cut(self, whole, first, stop):
        """The columns of a row from first up to, but without, stop."""
        key = ("cut", whole[0], first, stop)
        if key not in self.known:
            self.known[key] = self.shifted(self._cut(whole, first, stop), back(whole[1]))
        return self.shifted(self.known[key], whole[1])

    def _cut(self, whole, first, stop):
        left = Walk(self, whole, first, 0)
        right = Walk(self, whole, stop - 1, 0)
        head, tail, level = [], [], 0
        while True:
            level += 1
            head = head + left.take_front(level, right.end())
            if left.item is None:
                break
            tail = right.take_back(level, left.begin) + tail
            if right.item is None:
                break
            head = self.gathered(head, None, left.item, level)
            tail = self.gathered(tail, right.item, None, level)
            left.rise(level)
            right.rise(level)
        return self.finished(head + tail, level - 1)

    def many_times(self, one, many):
        """The row so many times over."""
        if many == 1:
            return one
        key = ("times", one[0], many)
        if key not in self.known:
            self.known[key] = self.shifted(self._many_times(one, many), back(one[1]))
        return self.shifted(self.known[key], one[1])

    def _many_times(self, one, many):
        left = Walk(self, one, 0, 0)
        right = Walk(self, one, self.lengths[one[0]] - 1, 0)
        between, level = [], 0
        while True:
            level += 1
            begin, end = left.begin, right.end()
            front = left.take_front(level, end)
            rear = [] if left.item is None else right.take_back(level, left.begin)
            if left.item is None or right.item is None:
                break
            between = self.gathered(rear + between + front, right.item, left.item, level)
            left.rise(level)
            right.rise(level)
        # Nothing is left between the ends of a copy that would not be knotted anew.
        head, tail = self._bunches(one, 0, begin, level), self._bunches(one, end, self.lengths[one[0]], level)
        middle = front + rear
        return self._repeated(head, middle + between, many - 1, middle + tail, level - 1)

    def _bunches(self, whole, first, stop, level):
        """The bunches of a row from the column first up to stop, of items of one level less than the level."""
        told = []
        if first < stop:
            walk = Walk(self, whole, first, level - 1)
            while walk.item is not None:
                told.append(walk.bunch(level, stop))
        return told

    def _repeated(self, head, word, many, tail, level):
        """The item of a head, a word so many times over, and a tail, in bunches that are knotted up to a level."""
        while many > FEW:
            level += 1
            head, word, tail = self.spread(head), self.spread(word), self.spread(tail)
            told = head + word * FEW + tail
            starts = self.openings(told, None, None, level)
            # From the third copy on to the last but one the copies are knotted alike.
            third = len(head) + 2 * len(word)
            inner = [one for one in starts if third <= one < third + len(word)]
            if not inner:
                # They are all the same item, in one run.
                item, repeats, _ = told[third]
                more = (many - FEW) * sum([bunch[1] for bunch in word])
                told[third] = (item, repeats + more, STILL)
                return self.finished(self.parted(told, starts, level), level)
            first, stop = inner[0], inner[0] + len(word)
            head = self.parted(told[:first], [one for one in starts if one < first], level)
            tail = self.parted(told[stop:], [one - stop for one in starts if one >= stop], level)
            word = self.parted(told[first:stop], [one - first for one in starts if first <= one < stop], level)
            many -= FEW - 1
        return self.finished(head + word * many + tail, level)

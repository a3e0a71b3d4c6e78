"""Knots: numbers for rows of columns, such that rows that are alike but for a shift have the same number.

An item (knot, shift) stands for the row of the knot, shifted. The shift of a row tells the tone that sounds first in
it, in the first voice that sounds there, and the duration of its first column; if no voice sounds in it, the shift has
the interval (0, 0).
"""

from counterheld.shifts import STILL, both, from_to, often, unpitched

# Multiplied with the odd number, numbers from 0 on change places so that near ones come to lie far apart.
SCATTER = 2654435769
SCATTERED = 2 ** 32


class Knots:
    """The knots of some rows.

    A knot is a leaf, which is one column; a run, the same knot many times over, each time shifted by the same step; or
    a block of some knots. Leaves have the level 0, runs odd ones, and blocks even ones.
    """

    def __init__(self):
        self.numbers = {}
        self.levels = []
        self.lengths = []
        self.mutes = []
        # For each knot its parts as items, their shifts told from its own one; a run has only its first part.
        self.inner = []
        self.steps = []
        self.counts_of_parts = []
        self.marks = {}

    def _put(self, key, level, length, mute, inner, step, many):
        if key not in self.numbers:
            self.numbers[key] = len(self.levels)
            self.levels.append(level)
            self.lengths.append(length)
            self.mutes.append(mute)
            self.inner.append(inner)
            self.steps.append(step)
            self.counts_of_parts.append(many)
        return self.numbers[key]

    def leaf(self, content, mute):
        """The knot of a column that has some content, told but for its first tone and its duration."""
        return self._put(("leaf", content), 0, 1, mute, (), None, 0)

    def placed(self, knot, shift):
        """The item of a knot with a shift."""
        return (knot, unpitched(shift)) if self.mutes[knot] else (knot, shift)

    def part_of(self, item, number):
        """The part with a number of a row that is no leaf, as an item."""
        knot, shift = item
        step = self.steps[knot]
        inner, rest = self.inner[knot][number if step is None else 0]
        if step is not None:
            rest = often(step, number)
        return self.placed(inner, both(shift, rest))

    def part_with(self, item, at):
        """The number of the part of a row in which its column at lies, and how many columns are ahead of this part."""
        knot = item[0]
        if self.steps[knot] is not None:
            length = self.lengths[self.inner[knot][0][0]]
            return at // length, at // length * length
        number, ahead = 0, 0
        for inner, _ in self.inner[knot]:
            if at < ahead + self.lengths[inner]:
                break
            ahead += self.lengths[inner]
            number += 1
        return number, ahead

    def step(self, one, other):
        """The shift from an item to the one behind it, as far as both feel it."""
        if self.mutes[one[0]] or self.mutes[other[0]]:
            return unpitched(from_to(one[1], other[1]))
        return from_to(one[1], other[1])

    def block(self, items, level):
        """The items as one of an even level; one alone stays as it is."""
        if len(items) == 1:
            return items[0]
        sounding = [shift for knot, shift in items if not self.mutes[knot]]
        first = items[0][1]
        base = first if not sounding else sounding[0][:2] + first[2:]
        inner = tuple([self.placed(knot, from_to(base, shift)) for knot, shift in items])
        key = (level, inner)
        if key not in self.numbers:
            length = sum([self.lengths[knot] for knot, _ in items])
            self._put(key, level, length, not sounding, inner, None, len(inner))
        return (self.numbers[key], base)

    def run(self, item, step, many, level):
        """The item so many times over, each time shifted by a step, as one of an odd level; alone it stays as it is."""
        if many == 1:
            return item
        knot, shift = item
        key = (level, knot, step, many)
        told = self._put(key, level, self.lengths[knot] * many, self.mutes[knot], ((knot, STILL),), step, many)
        return (told, shift)

    def mark(self, letter):
        """The number by which a letter (knot, step into it) is compared with others; no two have the same."""
        if letter not in self.marks:
            self.marks[letter] = len(self.marks) * SCATTER % SCATTERED
        return self.marks[letter]

    def bunched(self, items):
        """The items as bunches (item, how often it comes, the shift from each time to the next one)."""
        return [(item, 1, STILL) for item in items]

    def spread(self, bunches):
        """The bunches such that a step as between its items leads into each one with more than one item."""
        told = []
        for item, many, step in bunches:
            told.append((item, 1, STILL))
            if many > 1:
                told.append((self.shifted(item, step), many - 1, step))
        return told

    def shifted(self, item, shift):
        return self.placed(item[0], both(item[1], shift))

    def letters(self, bunches, before):
        """For each bunch the pair of its knot and the step into it, None if nothing stands ahead of it."""
        told = []
        for item, many, step in bunches:
            told.append((item[0], None if before is None else self.step(before, item)))
            before = item if many == 1 else self.shifted(item, often(step, many - 1))
        return told

    def openings(self, bunches, before, after, level):
        """Where the parts of bunches begin that are knotted to one item of the level each; they are spread.

        Before and after are the items around, or None at the ends of the row; the first bunch begins a part. Where a
        part begins is told by few items around: so rows are mostly knotted alike within, whatever stands ahead and
        behind them.
        """
        letters = self.letters(bunches, before)
        if level % 2 == 1:
            return [0] + [at for at in range(1, len(bunches)) if letters[at] != letters[at - 1]]
        marks = [self.mark(letter) for letter in letters]
        if after is not None:
            marks.append(self.mark((after[0], self.step(bunches[-1][0], after))))
        return [0] + [
            at for at in range(1, len(marks) - 1) if marks[at - 1] > marks[at] and marks[at] <= marks[at + 1]
        ]

    def knotted(self, bunches, level):
        """The bunches as an item of the level."""
        if level % 2 == 0:
            return self.block([item for item, _, _ in bunches], level)
        first = bunches[0][0]
        many = sum([repeats for _, repeats, _ in bunches])
        step = STILL if len(bunches) == 1 else self.step(first, bunches[1][0])
        return self.run(first, bunches[0][2] if bunches[0][1] > 1 else step, many, level)

    def parted(self, bunches, starts, level):
        """The bunches from each start up to the next one, as items of the level in bunches of one."""
        ends = starts[1:] + [len(bunches)]
        return self.bunched([self.knotted(bunches[one:other], level) for one, other in zip(starts, ends)])

    def gathered(self, bunches, before, after, level):
        """The bunches, knotted to items of the level, which is one higher, in bunches of one."""
        told = self.spread(bunches)
        return self.parted(told, self.openings(told, before, after, level), level)

    def finished(self, bunches, level):
        """The item of a whole row, of bunches that are knotted up to a level."""
        while len(bunches) > 1 or bunches[0][1] > 1:
            level += 1
            bunches = self.gathered(bunches, None, None, level)
        return bunches[0][0]

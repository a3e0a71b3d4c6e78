"""How far two rows of columns are alike, from a place on or back from it."""

from counterheld.shifts import STILL, back, both, often
from counterheld.tones import between


class Strand:
    """What is left of a row, from a place on (sign 1) or back from it (sign -1).

    It is kept as items, the next one last: (item, how often it comes, the shift from each time to the next one).
    """

    def __init__(self, weave, whole, at, sign):
        """At tells how many columns are ahead of the place."""
        self.weave = weave
        self.sign = sign
        self.left = [(whole, 1, STILL)]
        # Forward the columns ahead of the place are passed, backward those behind it.
        self.pass_over(at if sign > 0 else weave.lengths[whole[0]] - at)

    def pass_over(self, many):
        """Passes so many columns."""
        while many > 0:
            item, repeats, _ = self.left[-1]
            whole = many // self.weave.lengths[item[0]]
            if whole > 0:
                whole = min(whole, repeats)
                self.drop(whole)
                many -= whole * self.weave.lengths[item[0]]
            else:
                self.untie()

    def to_sound(self):
        """Passes the columns in which no voice sounds; tells how many, or None if the row ends with them."""
        told = 0
        while self.left:
            item, many, _ = self.left[-1]
            if self.weave.mutes[item[0]]:
                told += many * self.weave.lengths[item[0]]
                self.drop(many)
            elif self.weave.levels[item[0]] == 0:
                return told
            else:
                self.untie()
        return None

    def drop(self, many):
        """Passes the next item so many times."""
        (knot, shift), repeats, step = self.left.pop()
        if many < repeats:
            item = self.weave.placed(knot, both(shift, often(step, many)))
            self.left.append((item, repeats - many, step))

    def untie(self):
        """Puts the parts of the next item in its place."""
        item, repeats, _ = self.left[-1]
        self.drop(1)
        weave = self.weave
        knot = item[0]
        many, step = weave.counts_of_parts[knot], weave.steps[knot]
        if step is not None:
            first = weave.part_of(item, 0 if self.sign > 0 else many - 1)
            self.left.append((first, many, step if self.sign > 0 else back(step)))
            return
        parts = [(weave.part_of(item, number), 1, STILL) for number in range(many)]
        self.left.extend(parts[::-1] if self.sign > 0 else parts)


def matched(one, other):
    """How many columns of two strands are alike up to the first two that are not, which then are the next ones."""
    weave = one.weave
    told = 0
    while one.left and other.left:
        item, many, step = one.left[-1]
        item_again, many_again, step_again = other.left[-1]
        if item == item_again:
            alike = min(many, many_again) if step == step_again else 1
            told += alike * weave.lengths[item[0]]
            one.drop(alike)
            other.drop(alike)
            continue
        level, level_again = weave.levels[item[0]], weave.levels[item_again[0]]
        if level == 0 and level_again == 0:
            break
        # What is knotted higher is opened first: its parts may be what stands in the other one.
        if level >= level_again:
            one.untie()
        if level_again >= level:
            other.untie()
    return told


def interval_at(weave, one, place, other, place_again):
    """The interval from a tone of the row one to the first tone of the row other that sounds from a place on.

    The tone of the row one is the one that sounds as many columns behind its own place; (0, 0) if none sounds there.
    """
    strand, strand_again = Strand(weave, one, place, 1), Strand(weave, other, place_again, 1)
    ahead = strand_again.to_sound()
    if ahead is None or place + ahead >= weave.lengths[one[0]]:
        return (0, 0)
    strand.pass_over(ahead)
    # The next item of this row need not be a column, but its first one may be where a voice sounds.
    if strand.to_sound() != 0:
        return (0, 0)
    return between(strand.left[-1][0][1][:2], strand_again.left[-1][0][1][:2])

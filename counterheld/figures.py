"""Kinds of rows of notes, however high and fast they come."""

from counterheld.fractions import fraction
from counterheld.phrases import MOST_NOTES, phrases_of
from counterheld.tones import opposite

UNISON = (0, 0)


class Figures:
    """The rows of notes of a voice by their kinds.

    Each stretch comes once or often, turned or not; its own rows come as often. For each stretch, and each sign in
    which it comes, there is told how often, and how many notes begin ahead of those that surely begin in it where it
    comes first, and where it comes for the second time, or None.
    """

    def __init__(self, phrases, top, upside):
        self.phrases = phrases
        self.upside = upside
        self.comings = self._comings(top)
        self.told = {}
        self.shares = {}

    def _comings(self, top):
        told = {(top.number, 1): (1, 0, None)}
        for number in range(top.number, -1, -1):
            stretch = self.phrases.stretches[number]
            for sign in (1, -1):
                if (number, sign) in told:
                    self._hand_down(told, stretch, sign)
        return told

    def _hand_down(self, told, stretch, sign):
        many, first, second = told[(stretch.number, sign)]
        # Where both directions are of one kind, they need not be told apart.
        if stretch.change is not None and stretch.change[0] == "turn" and not self.upside:
            sign = -sign
        ahead = 0
        for part in stretch.parts:
            key = (part.number, sign)
            again = None if second is None else second + ahead
            told[key] = together(told.get(key), (many, first + ahead, again))
            if stretch.is_joined():
                ahead = stretch.ahead_of_right()

    def kinds(self, many):
        """The dict from the kinds of rows of so many notes to (how often, the first note, the next one or None)."""
        if many not in self.told:
            told = {}
            for number, sign in self.comings:
                stretch = self.phrases.stretches[number]
                comings, first, second = self.comings[(number, sign)]
                for at in stretch.own_starts(many):
                    kind = self._kind(stretch, at, many, sign)
                    if kind is not None:
                        rank = stretch.ranks[at]
                        again = None if second is None else second + rank
                        told[kind] = together(told.get(kind), (comings, first + rank, again))
            # The kinds of rows of one length are many enough to be kept.
            self.told = {many: told}
        return self.told[many]

    def _kind(self, stretch, at, many, sign):
        """The kind of the row of so many notes from a place in the row of a stretch on, or None if there is a gap."""
        gaps = stretch.gaps[at:at + many - 1]
        if None in gaps:
            return None
        moving = [gap for gap in gaps if gap != UNISON]
        if self.upside:
            sign = 1 if not moving or moving[0] > UNISON else -1
        if sign < 0:
            gaps = [opposite(gap) for gap in gaps]
        return (tuple(gaps), tuple(self._shares_of(stretch)[at:at + many - 2]))

    def _shares_of(self, stretch):
        """For each piece of the row of a stretch but the last one what the length of the next one is of its own."""
        if stretch.number not in self.shares:
            lengths = [length for _, length, _ in stretch.row]
            # Silence ahead of all columns has no length; it is in no row of notes.
            self.shares[stretch.number] = [
                fraction(other[0] * one[1], max(1, one[0]) * other[1]) for one, other in zip(lengths[:-1], lengths[1:])
            ]
        return self.shares[stretch.number]

    def commonest(self, many):
        """The pair of the first note and the number of the kind that comes most often, or None."""
        kinds = self.kinds(many)
        ranked = sorted([(-often, first) for often, first, _ in list(kinds.values())])
        return (ranked[0][1], -ranked[0][0]) if ranked else None

    def _first_twice(self, many):
        """The first two notes of the first kind that comes more than once, or None."""
        twice = [(first, second) for _, first, second in list(self.kinds(many).values()) if second is not None]
        return min(twice, default=None)

    def longest_twice(self):
        """The tuple (many, first, second) of the longest rows of which a kind comes twice, or None."""
        if self._first_twice(2) is None:
            return None
        # If rows of so many notes are of one kind, so are those that have a note less.
        low, high = 2, MOST_NOTES
        middle = high
        while low < high:
            if self._first_twice(middle) is None:
                high = middle - 1
            else:
                low = middle
            middle = (low + high + 1) // 2
        first, second = self._first_twice(low)
        return (low, first, second)


def together(one, other):
    """How often something comes, and where first and next, that comes like one, unless this is None, and like other."""
    if one is None:
        return other
    places = sorted([place for place in (one[1], one[2], other[1], other[2]) if place is not None])
    return (one[0] + other[0], places[0], places[1])


def figures_of(score, voice, upside):
    """The rows of notes of a voice by their kinds."""
    phrases = phrases_of(score)
    key = (voice, upside)
    if key not in phrases.figures:
        phrases.figures[key] = Figures(phrases, phrases.top_of(voice), upside)
    return phrases.figures[key]

"""Where a theme stands in the notes of a voice."""

from counterheld.fractions import fraction, product
from counterheld.phrases import phrases_of
from counterheld.plans import pace_of
from counterheld.tones import between, opposite

# The most searches that are kept for a score.
MOST_SEARCHES = 8


class Search:
    """A theme in the notes of a voice.

    A way is (sign, pace): the sign in which the theme is sought in a stretch, 0 standing for both, and the pace at
    which the stretch comes, or None if any pace will do. Each stretch is looked through once for each way in which it
    comes.
    """

    def __init__(self, stretches, top, theme, upside, paced):
        self.stretches = stretches
        self.top = top
        self.theme = theme
        self.unit = theme[0][1]
        self.gaps = [between(one[0], other[0]) for one, other in zip(theme[:-1], theme[1:])]
        self.opposites = [opposite(gap) for gap in self.gaps]
        n, d = self.unit
        # The lengths of all notes but the last one, the first one being 1.
        self.shares = [fraction(length[0] * d, length[1] * n) for _, length in theme[:-1]]
        self.way = (0 if upside else 1, None if paced else (1, 1))
        self.tallies = self._counts()
        self.total = self.tallies[(top.number, self.way)]

    def _counts(self):
        """For each stretch and way the number of places that it has alone."""
        counts = {}
        ways = {self.top.number: {self.way: True}}
        order = []
        for number in range(self.top.number, -1, -1):
            if number in ways:
                order.append(number)
                stretch = self.stretches[number]
                for part in stretch.parts:
                    told = ways.setdefault(part.number, {})
                    for way in list(ways[number]):
                        told[way_of_part(stretch, way)] = True
        for number in reversed(order):
            stretch = self.stretches[number]
            for way in ways[number]:
                below = [counts[(part.number, way_of_part(stretch, way))] for part in stretch.parts]
                counts[(number, way)] = len(self._places(stretch, way)) + sum(below)
        return counts

    def _places(self, stretch, way):
        """The places in the row of a stretch at which the theme stands, ascending."""
        return [at for at in stretch.own_starts(len(self.gaps) + 1) if self._stands(stretch, at, way)]

    def _stands(self, stretch, at, way):
        sign, pace = way
        gaps = stretch.gaps[at:at + len(self.gaps)]
        if not (sign >= 0 and gaps == self.gaps) and not (sign <= 0 and gaps == self.opposites):
            return False
        length = stretch.row[at][1]
        if pace is not None and product(length, pace) != self.unit:
            return False
        for piece, share in zip(stretch.row[at:], self.shares):
            if piece[1] != product(length, share):
                return False
        return True

    def stands_upright(self, tones):
        """Whether the notes of a place, told by their tones, go up and down as the theme does."""
        return [between(one, other) for one, other in zip(tones[:-1], tones[1:])] == self.gaps

    def place(self, number):
        """The first note of the place with the number, which there is."""
        stretch, way, ahead = self.top, self.way, 0
        while stretch.parts:
            below = way_of_part(stretch, way)
            many = self.tallies[(stretch.parts[0].number, below)]
            if number < many:
                stretch, way = stretch.parts[0], below
                continue
            # What does not lie in the first part lies around the place between both, or in the second one.
            number -= many
            many = len(self._places(stretch, way))
            if number < many:
                break
            number -= many
            ahead += stretch.ahead_of_right()
            stretch, way = stretch.parts[1], below
        return ahead + stretch.ranks[self._places(stretch, way)[number]]

    def many_below(self, limit):
        """How many places have a first note with a number below the limit."""
        stretch, way, ahead, told = self.top, self.way, 0, 0
        while stretch.parts:
            below = way_of_part(stretch, way)
            if stretch.is_joined():
                told += len([at for at in self._places(stretch, way) if ahead + stretch.ranks[at] < limit])
            if stretch.is_joined() and ahead + stretch.ahead_of_right() < limit:
                told += self.tallies[(stretch.parts[0].number, below)]
                ahead += stretch.ahead_of_right()
                stretch = stretch.parts[1]
            else:
                stretch = stretch.parts[0]
            way = below
        return told + len([at for at in self._places(stretch, way) if ahead + stretch.ranks[at] < limit])


def way_of_part(stretch, way):
    """The way in which the parts of a stretch come, when the stretch comes in a way."""
    if stretch.change is None:
        return way
    sign, pace = way
    if stretch.change[0] == "turn":
        sign = -sign
    return (sign, None if pace is None else product(pace, pace_of(stretch.change)))


def search_of(score, voice, theme, manner):
    """The search for a theme, of tuples, in a voice of a score."""
    phrases = phrases_of(score)
    upside, paced = manner
    key = (voice, theme, upside, paced)
    if key not in phrases.searches:
        if len(phrases.searches) >= MOST_SEARCHES:
            phrases.searches = {}
        phrases.searches[key] = Search(phrases.stretches, phrases.top_of(voice), theme, upside, paced)
    return phrases.searches[key]

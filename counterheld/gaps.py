"""Gaps between scores that are filled with bars of a box."""

from counterheld.boxes import checked_box, voices_of
from counterheld.errors import ScoreError
from counterheld.fillings import Bridging, is_shown
from counterheld.goings import is_word
from counterheld.kinds import is_whole
from counterheld.ways import Graph, Ways

MOST_NUMBER = 400


class BadGap(ScoreError):
    """What is no gap, or goes with none: the reason is "voices", "number" or "costs"."""

    def __init__(self, reason):
        ScoreError.__init__(self, "no gap: " + reason)
        self.reason = reason


def checked_bars(box, scores, number, least, most):
    """The box as tuples; raises BadBox, then BadGap for unlike voices, then for a number not from least to most."""
    bars = checked_box(box)
    for score in scores:
        if score.voices != voices_of(bars[0]):
            raise BadGap("voices")
    if not is_whole(number, least, most):
        raise BadGap("number")
    return bars


class Filled:
    """A right gap and how a book goes through it; node 0 of the graph is the place behind the score ahead."""

    def __init__(self, gap, book):
        ahead, box, self.number, after = gap
        self.bars = checked_bars(box, (ahead, after), self.number, 0, MOST_NUMBER)
        self.bridging = Bridging(ahead, self.bars, after, book)
        self.graph = Graph([self.bridging.start], self.bridging.places_behind)
        self.fitting = [self.bridging.fits(place) for place in self.graph.places]

    def all_ways(self):
        """The ways of the fillings."""
        return Ways(self.graph.rows, [int(fits) for fits in self.fitting])

    def least_by_level(self, costs):
        """For each number of bars the dict from the nodes to which words lead to the least cost of such a word."""
        told = [{0: 0}]
        while len(told) <= self.number:
            following = {}
            for node, low in told[-1].items():
                for bar, other in enumerate(self.graph.rows[node]):
                    if other is not None:
                        following[other] = min(low + costs[bar], following.get(other, low + costs[bar]))
            told.append(following)
        return told

    def is_blocked(self, levels):
        """Whether none of the places to which words lead fits."""
        return not any([self.fitting[node] for node in levels[-1]])


def filling_count(gap, book):
    """How many fillings there are."""
    filled = Filled(gap, book)
    return filled.all_ways().many(0, filled.number)


def filling_at(gap, book, index):
    """The filling with this index, number by number, or None."""
    filled = Filled(gap, book)
    return filled.all_ways().word_at(0, filled.number, index)


def filling_index(gap, book, word):
    """The index of a filling, or None for what is none."""
    filled = Filled(gap, book)
    if not is_word(word, filled.bars) or len(word) != filled.number:
        return None
    return filled.all_ways().place_of(0, word)


def blocked(gap, book):
    """The paper that there is no filling, or None if there is one."""
    filled = Filled(gap, book)
    levels = filled.least_by_level((0,) * len(filled.bars))
    if not filled.is_blocked(levels):
        return None
    places = filled.graph.places
    return tuple([tuple(sorted([places[node] for node in level])) for level in levels])


def is_blocked_by(gap, book, paper):
    """Whether it is a paper that there is no filling, whatever it is."""
    filled = Filled(gap, book)
    if not isinstance(paper, tuple) or not all([isinstance(level, tuple) for level in paper]):
        return False
    # Where nothing costs anything, what costs at least 1 is not there.
    told = tuple([tuple([(place, 0) for place in level]) for level in paper])
    return is_shown(filled.bridging, filled.number, told, (0,) * len(filled.bars), 1)

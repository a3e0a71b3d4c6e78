"""Gaps between scores that are filled with bars of a box."""

from counterheld.boxes import checked_box, voices_of
from counterheld.errors import ScoreError
from counterheld.fillings import Bridging, is_shown
from counterheld.goings import is_word
from counterheld.kinds import is_whole
from counterheld.ways import Graph, Ways, kinds_of, row_of_kinds

MOST_NUMBER = 400
# In so many rounds places are merged from which the same words lead on; where more would be needed, none are.
MOST_ROUNDS = 30
# The most gaps that a book keeps of those that it was last asked about, and the most numbers of them all.
MOST_GAPS = 8
MOST_KEPT = 150000


class BadGap(ScoreError):
    """What is no gap, or goes with none: the reason is "voices", "number" or "costs"."""

    def __init__(self, reason):
        ScoreError.__init__(self, "no gap: " + reason)
        self.reason = reason


def checked_bars(box, scores, number, least, most):
    """The box as tuples; raises BadBox, then BadGap for unlike voices, then for a number not from least to most."""
    bars = checked_box(box)
    for score in scores:
        if score.voices != voices_of(bars[0]):
            raise BadGap("voices")
    if not is_whole(number, least, most):
        raise BadGap("number")
    return bars


class Filled:
    """A way from a score over some bars to another score; node 0 of the graph is the place behind the score ahead."""

    def __init__(self, bridging, number):
        self.bridging = bridging
        self.number = number
        self.bars = bridging.bars
        self.graph = Graph([bridging.start], bridging.places_behind)
        self.fitting = [bridging.fits(place) for place in self.graph.places]
        self._merge()
        # What has been worked out of the fillings, in their order, and by the last costs that were asked for.
        self.ways = Ways(self.rows, self.ends)
        self.ranking = None

    def _merge(self):
        """Finds nodes from which the same fillings lead on; each kind of them has its row, and is an end or not."""
        rows, ends = self.graph.rows, [int(fits) for fits in self.fitting]
        kinds = kinds_of(rows, ends, MOST_ROUNDS)
        if kinds is None:
            kinds = list(range(len(rows)))
        node_of = {kind: node for node, kind in enumerate(kinds)}
        self.rows = [row_of_kinds(kinds, rows[node_of[kind]]) for kind in range(len(node_of))]
        self.ends = [ends[node_of[kind]] for kind in range(len(node_of))]
        self.first = kinds[0]

    def weight(self):
        """How many numbers there may be to be kept."""
        return len(self.rows) * (self.number + 1)

    def many(self):
        """How many fillings there are."""
        return self.ways.many(self.first, self.number)

    def filling(self, index):
        return self.ways.word_at(self.first, self.number, index)

    def index_of(self, word):
        return self.ways.place_of(self.first, word)

    def least_by_level(self, costs):
        """For each number of bars the dict from the nodes to which words lead to the least cost of such a word."""
        told = [{0: 0}]
        while len(told) <= self.number:
            following = {}
            for node, low in told[-1].items():
                for bar, other in enumerate(self.graph.rows[node]):
                    if other is not None:
                        following[other] = min(low + costs[bar], following.get(other, low + costs[bar]))
            told.append(following)
        return told

    def is_blocked(self, levels):
        """Whether none of the places to which words lead fits."""
        return not any([self.fitting[node] for node in levels[-1]])


def filled_of(gap, book):
    """What is known of a gap with a book, worked out or kept; raises for what is no gap."""
    ahead, box, number, after = gap
    bars = checked_bars(box, (ahead, after), number, 0, MOST_NUMBER)
    bridging = Bridging(ahead, bars, after, book)
    kept = book.steps.fillings
    key = bridging.key(number)
    if key in kept:
        return kept[key]
    filled = Filled(bridging, number)
    weight = sum([other.weight() for other in list(kept.values())]) + filled.weight()
    if len(kept) >= MOST_GAPS or weight > MOST_KEPT:
        kept.clear()
    kept[key] = filled
    return filled


def filling_count(gap, book):
    """How many fillings there are."""
    return filled_of(gap, book).many()


def filling_at(gap, book, index):
    """The filling with this index, number by number, or None."""
    return filled_of(gap, book).filling(index)


def filling_index(gap, book, word):
    """The index of a filling, or None for what is none."""
    filled = filled_of(gap, book)
    if not is_word(word, filled.bars) or len(word) != filled.number:
        return None
    return filled.index_of(word)


def blocked(gap, book):
    """The paper that there is no filling, or None if there is one."""
    filled = filled_of(gap, book)
    levels = filled.least_by_level((0,) * len(filled.bars))
    if not filled.is_blocked(levels):
        return None
    places = filled.graph.places
    return tuple([tuple(sorted([places[node] for node in level])) for level in levels])


def is_blocked_by(gap, book, paper):
    """Whether it is a paper that there is no filling, whatever it is."""
    filled = filled_of(gap, book)
    if not isinstance(paper, tuple) or not all([isinstance(level, tuple) for level in paper]):
        return False
    # Where nothing costs anything, what costs at least 1 is not there.
    told = tuple([tuple([(place, 0) for place in level]) for level in paper])
    return is_shown(filled.bridging, filled.number, told, (0,) * len(filled.bars), 1)

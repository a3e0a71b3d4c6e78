"""Refrains: the same bars put in twice."""

from counterheld.fillings import Bridging
from counterheld.gaps import checked_bars
from counterheld.ways import Graph, Ways

MOST_NUMBER = 16
# The words that lead to ends are counted for each state of the book in a field of its own within one number; there are
# at most 12 ** 16 of them.
FIELD = 64
SIZE = 2 ** 64


class RefrainWays:
    """A right refrain and how a book goes through it.

    Both runs through the word are followed at once. Since the second one begins in a state that only the end of the
    first one tells, all states are tried; a word counts for a state if its first run ends so that the middle leads to
    this state. A place is (bar, state in the first run, state in the second one), and (None, None, state) stands for
    the beginning when the second run begins in this state.
    """

    def __init__(self, refrain, book):
        ahead, box, self.number, middle, after = refrain
        bars = checked_bars(box, (ahead, middle, after), self.number, 1, MOST_NUMBER)
        self.one = Bridging(ahead, bars, middle, book)
        self.other = Bridging(middle, bars, after, book)
        self.states = len(book.states)
        self.graph = Graph([(None, None, state) for state in range(self.states)], self._behind)
        self.paths = Ways(self.graph.rows, [self._end(place) for place in self.graph.places])

    def _behind(self, place):
        bar, state, state_again = place
        if bar is None:
            state = self.one.start[1]
        rows = self.one.places_behind((bar, state)), self.other.places_behind((bar, state_again))
        told = []
        for one, other in zip(rows[0], rows[1]):
            told.append(None if one is None or other is None else (one[0], one[1], other[1]))
        return told

    def _end(self, place):
        """How often the place counts as an end: once, in the field of the state behind the middle, or not at all."""
        bar, state, state_again = place
        if bar is None or not self.other.fits((bar, state_again)):
            return 0
        begun = self.one.end((bar, state))
        return 0 if begun is None else 1 << (FIELD * begun)

    def many(self, nodes, length):
        """How many words of a length lead on from nodes, one of which stands for each state, or None."""
        told = 0
        for state, node in enumerate(nodes):
            if node is not None:
                told += (self.paths.many(node, length) >> (FIELD * state)) % SIZE
        return told


def refrain_count(refrain, book):
    """How many fillings the refrain has."""
    told = RefrainWays(refrain, book)
    return told.many(list(range(told.states)), told.number)


def refrain_at(refrain, book, index):
    """The filling with this index, number by number, or None."""
    told = RefrainWays(refrain, book)
    nodes = list(range(told.states))
    if not 0 <= index < told.many(nodes, told.number):
        return None
    word = []
    while len(word) < told.number:
        bar, nodes, index = _turn(told, nodes, told.number - len(word) - 1, index)
        word.append(bar)
    return tuple(word)


def _turn(refrain, nodes, left, index):
    """The bar with which the filling goes on, the nodes behind it, and the index among what follows."""
    bar = -1
    many = 0
    while index >= many:
        index -= many
        bar += 1
        following = [None if node is None else refrain.graph.rows[node][bar] for node in nodes]
        many = refrain.many(following, left)
    return bar, following, index

"""Boxes of bars, and the words that a book lets."""

from counterheld.columns import BadColumn, check_bar
from counterheld.errors import ScoreError
from counterheld.goings import START, goings_of, is_word
from counterheld.kinds import is_row
from counterheld.scores import Score
from counterheld.ways import Graph, Ways

MOST_BARS = 12


class BadBox(ScoreError):
    """What is no box: the number of the first thing that is no bar of it, or None."""

    def __init__(self, number):
        ScoreError.__init__(self, "no box")
        self.number = number


def checked_box(box):
    """The box as tuples; whatever it is, what is wrong with it is told by BadBox."""
    if not is_row(box) or not 1 <= len(box) <= MOST_BARS:
        raise BadBox(None)
    told = []
    for number, thing in enumerate(box):
        try:
            bar = check_bar(thing)
        except BadColumn:
            raise BadBox(number) from None
        if told and voices_of(bar) != voices_of(told[0]):
            raise BadBox(number)
        told.append(bar)
    return tuple(told)


def voices_of(bar):
    return len(bar[0][2])


def word_score(box, word):
    """A score with the columns of a word of at least one bar."""
    bars = checked_box(box)
    rules = []
    rule_of = {}
    for number in word:
        if number not in rule_of:
            rule_of[number] = len(rules)
            rules.append(("bar", bars[number]))
    last = rule_of[word[0]]
    for number in word[1:]:
        rules.append(("then", last, rule_of[number]))
        last = len(rules) - 1
    return Score(rules)


def lets_word(box, book, word):
    """Whether the book breaks no column of the word."""
    bars = checked_box(box)
    if not is_word(word, bars):
        return False
    goings = goings_of(book, bars)
    place = START
    for bar in word:
        state = goings.states_behind(place)[bar]
        if state is None:
            return False
        place = (bar, state)
    return True


def word_graph(bars, book):
    """The graph of the places to which the words lead that the book lets, from the start on."""
    goings = goings_of(book, bars)
    return Graph([START], goings.behind)


def _words(bars, book):
    """The ways of all words that the book lets, from node 0 on."""
    goings = goings_of(book, bars)
    if goings.words is None:
        rows = word_graph(bars, book).rows
        goings.words = Ways(rows, [1] * len(rows))
    return goings.words


def word_count(box, book, length):
    """How many words of a length the book lets."""
    return _words(checked_box(box), book).many(0, length)


def word_at(box, book, length, index):
    """The word with this index among those of a length that the book lets, or None."""
    return _words(checked_box(box), book).word_at(0, length, index)


def word_index(box, book, word):
    """The index of a word among those of its length that the book lets, or None."""
    bars = checked_box(box)
    return _words(bars, book).place_of(0, word) if is_word(word, bars) else None


def longest(box, book):
    """The length of the longest words that the book lets, or None if it does not end."""
    rows = word_graph(checked_box(box), book).rows
    nodes, length = [0], 0
    # A word that leads to more nodes than there are has been at one of them twice.
    while length < len(rows):
        nodes = sorted({other for node in nodes for other in rows[node] if other is not None})
        if not nodes:
            return length
        length += 1
    return None


def endless(box, book):
    """The pair (ahead, again) of words, again being let behind ahead as often as one likes, or None if it ends."""
    graph = word_graph(checked_box(box), book)
    told = None
    # Nodes stand in the order of the words ahead, so the first one of a least sum is the one to tell.
    for node in range(1, len(graph.rows)):
        ahead = graph.word_to(node)
        if told is not None and len(ahead) + 1 >= len(told[0]) + len(told[1]):
            break
        again = _way_back(graph.rows, node)
        if again is None or (told is not None and len(ahead) + len(again) >= len(told[0]) + len(told[1])):
            continue
        told = (ahead, again)
    return told


def _way_back(rows, node):
    """The first of the shortest words that lead from a node to itself, or None."""
    graph = Graph([node], lambda number: rows[number])
    for number, row in enumerate(graph.rows):
        if 0 in row:
            return graph.word_to(number) + (row.index(0),)
    return None

"""Books held against one another for all words of a box, and the machines of books."""

from counterheld.boxes import checked_box, word_graph
from counterheld.goings import goings_of
from counterheld.kinds import is_whole
from counterheld.ways import Graph, Ways, kinds_of, row_of_kinds

# The triple ahead of the first bar.
BEGINNING = (None, 0, 0)


def _pairs(bars, one, other):
    """The graph of the triples (bar, state of one, state of other) to which the words lead that the book one lets.

    The state of other is None behind words that other does not let.
    """
    goings, beside = goings_of(one, bars), goings_of(other, bars)
    nothing = (None,) * len(bars)

    def behind(triple):
        bar, state, state_beside = triple
        states_beside = nothing if state_beside is None else beside.states_behind((bar, state_beside))
        told = []
        for number, following in enumerate(goings.states_behind((bar, state))):
            told.append(None if following is None else (number, following, states_beside[number]))
        return told

    return Graph([BEGINNING], behind)


def parting_word(box, one, other):
    """The first word that the book one lets and the book other does not, or None."""
    graph = _pairs(checked_box(box), one, other)
    for node, triple in enumerate(graph.places):
        if triple[2] is None:
            return graph.word_to(node)
    return None


def keeping_paper(box, one, other):
    """The paper that the book one keeps to the book other, or None if it does not."""
    triples = _pairs(checked_box(box), one, other).places
    if None in [triple[2] for triple in triples]:
        return None
    return tuple(sorted(triples[1:]))


def is_keeping(box, one, other, paper):
    """Whether it is a paper that the book one keeps to the book other, whatever it is."""
    bars = checked_box(box)
    if not isinstance(paper, tuple):
        return False
    there = {}
    for triple in paper:
        if not _is_triple(triple, bars, one, other) or triple in there:
            return False
        there[triple] = True
    goings, beside = goings_of(one, bars), goings_of(other, bars)
    for bar, state, state_beside in (BEGINNING,) + paper:
        rows = goings.states_behind((bar, state)), beside.states_behind((bar, state_beside))
        for number, (following, following_beside) in enumerate(zip(rows[0], rows[1])):
            if following is not None and (number, following, following_beside) not in there:
                return False
    return True


def _is_triple(thing, bars, one, other):
    if not isinstance(thing, tuple) or len(thing) != 3:
        return False
    limits = (len(bars), len(one.states), len(other.states))
    return all([is_whole(number, 0, limit - 1) for number, limit in zip(thing, limits)])


def machine(box, book):
    """The machine of a book."""
    rows = word_graph(checked_box(box), book).rows
    kinds = kinds_of(rows, [0] * len(rows), len(rows))
    # Any node of a kind may stand for it.
    node_of = {kind: node for node, kind in enumerate(kinds)}
    graph = Graph([kinds[0]], lambda kind: row_of_kinds(kinds, rows[node_of[kind]]))
    return tuple(graph.rows)


def _apart(box, one, other):
    """The ways of the words that one lets and other does not, from node 0 on."""
    graph = _pairs(checked_box(box), one, other)
    return Ways(graph.rows, [1 if triple[2] is None else 0 for triple in graph.places])


def apart_count(box, one, other, length):
    """How many words of a length the book one lets and the book other does not."""
    return _apart(box, one, other).many(0, length)


def apart_at(box, one, other, length, index):
    """The one of these words with this index, or None."""
    return _apart(box, one, other).word_at(0, length, index)

"""Graphs of places, and the ways through them.

Nodes are numbered from 0, and have rows: for each bar of a box the number of the node behind it, or None.
"""


class Graph:
    """The places to which words lead from some places, in the order of the first words that lead to them.

    A place has the same number in places, in rows, and in parents, which has for it the pair of the node ahead of it on
    its first word and the last bar of this, or None.
    """

    def __init__(self, starts, behind):
        """The function behind tells for a place the row of the places behind it, or None."""
        self.places = []
        self.rows = []
        self.parents = []
        self.numbers = {}
        for place in starts:
            self._number(place, None)
        while len(self.rows) < len(self.places):
            node = len(self.rows)
            row = []
            for bar, place in enumerate(behind(self.places[node])):
                row.append(None if place is None else self._number(place, (node, bar)))
            self.rows.append(tuple(row))

    def _number(self, place, parent):
        if place not in self.numbers:
            self.numbers[place] = len(self.places)
            self.places.append(place)
            self.parents.append(parent)
        return self.numbers[place]

    def word_to(self, node):
        """The first word that leads to a node."""
        told = []
        while self.parents[node] is not None:
            node, bar = self.parents[node]
            told.append(bar)
        return tuple(told[::-1])


class Ways:
    """The words that lead to ends; a node counts as an end as often as ends tell for it.

    Words of one length are ordered number by number, and numbered from 0.
    """

    def __init__(self, rows, ends):
        self.rows = rows
        self.following = [[node for node in row if node is not None] for row in rows]
        # For each length how many words of it lead from each node to ends.
        self.levels = [ends]

    def level(self, length):
        while len(self.levels) <= length:
            last = self.levels[-1]
            self.levels.append([sum([last[node] for node in nodes]) for nodes in self.following])
        return self.levels[length]

    def many(self, node, length):
        """How many words of a length lead from the node to ends."""
        return self.level(length)[node]

    def word_at(self, node, length, at):
        """The word of a length with a number, or None."""
        if not 0 <= at < self.many(node, length):
            return None
        told = []
        while len(told) < length:
            bar, node, at = self._turn(node, self.level(length - len(told) - 1), at)
            told.append(bar)
        return tuple(told)

    def _turn(self, node, level, at):
        """The bar with which the word with a number goes on, the node behind, and the number from there."""
        for bar, other in enumerate(self.rows[node]):
            many = 0 if other is None else level[other]
            if at < many:
                break
            at -= many
        return bar, other, at

    def place_of(self, node, word):
        """The number of a word among those of its length, or None if it does not lead to an end."""
        told = 0
        for number, bar in enumerate(word):
            level = self.level(len(word) - number - 1)
            row = self.rows[node]
            told += sum([level[other] for other in row[:bar] if other is not None])
            node = row[bar]
            if node is None:
                return None
        return told if self.level(0)[node] > 0 else None


def kinds_of(rows, ends, most):
    """For each node a number; nodes have the same number if the same words lead on from them, and to the same ends.

    None if after so many rounds as most it is not known yet. The numbers are from 0 on, without gaps.
    """
    kinds, many = ends, len(set(ends))
    for _ in range(most + 1):
        numbers = {}
        told = []
        for kind, row in zip(kinds, rows):
            key = (kind, row_of_kinds(kinds, row))
            if key not in numbers:
                numbers[key] = len(numbers)
            told.append(numbers[key])
        if len(numbers) == many:
            return told
        kinds, many = told, len(numbers)
    return None


def row_of_kinds(kinds, row):
    """The row with the kinds of its nodes in their place."""
    return tuple([None if node is None else kinds[node] for node in row])

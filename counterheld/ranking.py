"""Words by what they cost."""

from heapq import heapify, heappop, heappush


def least_costs(rows, fits, number, costs):
    """For each number of bars that are left, and each node, the least cost of a word from it that fits, or None."""
    told = [[0 if fit else None for fit in fits]]
    while len(told) <= number:
        last = told[-1]
        level = []
        for row in rows:
            sums = []
            for bar, other in enumerate(row):
                if other is not None and last[other] is not None:
                    sums.append(costs[bar] + last[other])
            level.append(min(sums, default=None))
        told.append(level)
    return told


class Ranking:
    """The words that fit, those that cost less first, of the same cost number by number.

    A key is a pair (how many bars are left, node). For each key that is asked for there is a row of entries, each for a
    word from there on: (its cost, its first bar, the place of what follows in the row of the key behind this bar). The
    rows grow only as far as others want them.
    """

    def __init__(self, rows, costs, least):
        self.rows = rows
        self.costs = costs
        self.least = least
        self.entries = {}
        self.queues = {}
        self.ended = {}

    def word(self, key, place):
        """The pair (cost, word) with a place in the row of a key that has a word at all, or None."""
        self._open(key)
        while len(self.entries[key]) <= place and key not in self.ended:
            self._grow(key)
        if len(self.entries[key]) <= place:
            return None
        cost = self.entries[key][place][0]
        told = []
        while key[0] > 0:
            self._open(key)
            _, bar, place = self.entries[key][place]
            told.append(bar)
            key = self._behind(key, bar)
        return (cost, tuple(told))

    def _behind(self, key, bar):
        left, node = key
        return (left - 1, self.rows[node][bar])

    def _open(self, key):
        """Begins the row of a key with its first entry."""
        if key in self.entries:
            return
        left, node = key
        queue = []
        if left == 0:
            queue.append((0, None, 0))
        else:
            for bar, other in enumerate(self.rows[node]):
                if other is not None and self.least[left - 1][other] is not None:
                    queue.append((self.costs[bar] + self.least[left - 1][other], bar, 0))
        heapify(queue)
        self.entries[key] = [heappop(queue)]
        self.queues[key] = queue

    def _grow(self, key):
        """Puts one more entry to the row of a key, or ends it."""
        keys = [key]
        lacking = self._lacking(key)
        # A chain of as many keys as there are bars, too long for functions that call themselves.
        while lacking is not None:
            keys.append(lacking)
            lacking = self._lacking(lacking)
        for other in keys[::-1]:
            self._take(other)

    def _lacking(self, key):
        """The key whose row must grow ahead of the one of this key, or None."""
        _, bar, place = self.entries[key][-1]
        if bar is None:
            return None
        other = self._behind(key, bar)
        self._open(other)
        return other if len(self.entries[other]) <= place + 1 and other not in self.ended else None

    def _take(self, key):
        """Puts one more entry to the row of a key, or ends it; the row behind the last entry has grown before."""
        _, bar, place = self.entries[key][-1]
        if bar is not None:
            entries = self.entries[self._behind(key, bar)]
            if place + 1 < len(entries):
                heappush(self.queues[key], (self.costs[bar] + entries[place + 1][0], bar, place + 1))
        if self.queues[key]:
            self.entries[key].append(heappop(self.queues[key]))
        else:
            self.ended[key] = True

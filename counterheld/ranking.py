"""Words by what they cost."""

# The most entries with which a ranking is still used for the next question.
MOST_ENTRIES = 200000


def least_costs(rows, fits, number, costs):
    """For each number of bars that are left, and each node, the least cost of a word from it that fits, or None."""
    told = [[0 if fit else None for fit in fits]]
    ways = [[(costs[bar], other) for bar, other in enumerate(row) if other is not None] for row in rows]
    while len(told) <= number:
        last = told[-1]
        level = []
        for way in ways:
            level.append(min([cost + last[other] for cost, other in way if last[other] is not None], default=None))
        told.append(level)
    return told


class Ranking:
    """The words that fit, those that cost less first, of the same cost number by number.

    A key is a pair (how many bars are left, node). Each key that is asked for has entries (cost, how many words from
    there on cost as much), ascending; they grow only as far as others want them. What comes next is told for each bar
    by (cost, bar, the place of the entry, of the key behind the bar, from which the cost comes).
    """

    def __init__(self, rows, costs, least):
        self.rows = rows
        self.costs = costs
        self.least = least
        self.entries = {}
        # The same as dicts from the costs to the numbers of words.
        self.words = {}
        self.next_ones = {}
        self.grown = 0

    def is_long(self):
        """Whether there are so many entries that they are better worked out anew when they are asked for again."""
        return self.grown > MOST_ENTRIES

    def word(self, key, index):
        """The pair (cost, word) with an index among the words from a key on, of which there are some, or None."""
        cost, index = self._cost(key, index)
        if cost is None:
            return None
        told = []
        left = cost
        while key[0] > 0:
            for bar, other in enumerate(self.rows[key[1]]):
                many = 0
                if other is not None and (key[0] - 1, other) in self.words:
                    many = self.words[(key[0] - 1, other)].get(left - self.costs[bar], 0)
                if index < many:
                    break
                index -= many
            told.append(bar)
            left -= self.costs[bar]
            key = self._behind(key, bar)
        return (cost, tuple(told))

    def _cost(self, key, index):
        """The cost of the word with an index, None if there are not so many, and its index among those of this cost."""
        self._open(key)
        place = 0
        while True:
            if place == len(self.entries[key]):
                if not self.next_ones[key]:
                    return None, index
                self._grow(key)
            cost, many = self.entries[key][place]
            if index < many:
                return cost, index
            index -= many
            place += 1

    def _behind(self, key, bar):
        left, node = key
        return (left - 1, self.rows[node][bar])

    def _open(self, key):
        """Begins with the entries of a key: tells what comes next."""
        if key in self.entries:
            return
        left, node = key
        self.entries[key] = []
        self.words[key] = {}
        told = []
        if left == 0:
            self.entries[key].append((0, 1))
            self.words[key][0] = 1
        else:
            for bar, other in enumerate(self.rows[node]):
                if other is not None and self.least[left - 1][other] is not None:
                    told.append((self.costs[bar] + self.least[left - 1][other], bar, 0))
        self.next_ones[key] = told

    def _grow(self, key):
        """Puts one more entry to those of a key, for which something comes next."""
        keys = [key]
        # A chain of as many keys as there are bars, too long for functions that call themselves.
        while keys:
            lacking = self._lacking(keys[-1])
            if lacking is None:
                self._take(keys.pop())
            else:
                keys.append(lacking)

    def _lacking(self, key):
        """A key of which one more entry must be known before the next entry of this key, or None."""
        cost = min([following[0] for following in self.next_ones[key]])
        for following, bar, place in list(self.next_ones[key]):
            if following == cost:
                other = self._behind(key, bar)
                self._open(other)
                if len(self.entries[other]) <= place:
                    return other
        return None

    def _take(self, key):
        """Puts one more entry to those of a key; all entries that it comes from are known."""
        cost = min([following[0] for following in self.next_ones[key]])
        told, many = [], 0
        for following, bar, place in self.next_ones[key]:
            if following > cost:
                told.append((following, bar, place))
                continue
            other = self._behind(key, bar)
            many += self.entries[other][place][1]
            if place + 1 < len(self.entries[other]):
                told.append((self.costs[bar] + self.entries[other][place + 1][0], bar, place + 1))
            elif self.next_ones[other]:
                low = min([next_one[0] for next_one in self.next_ones[other]])
                told.append((self.costs[bar] + low, bar, place + 1))
        self.entries[key].append((cost, many))
        self.words[key][cost] = many
        self.next_ones[key] = told
        self.grown += 1

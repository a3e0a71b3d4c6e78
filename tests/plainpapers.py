"""Papers about broken columns the slow and plain way: made by chance, and judged with all columns written out."""

from tests import plainbooks, plainly


def is_whole(thing, low, high):
    return type(thing) is int and low <= thing <= high


class Written:
    """A score and a book, with the columns of all rules written out."""

    def __init__(self, rules, book):
        self.rules, self.book = rules, book
        self.rows = plainly.written(rules)
        self.voices = len(self.rows[0][0][2])
        self.last = (len(rules) - 1, 0, len(self.rows[-1]), (1, tuple(range(self.voices))))
        self.kept = {}

    def table(self, rule, first, stop, view):
        key = (rule, first, stop, view)
        if key not in self.kept:
            self.kept[key] = plainbooks.table(self.book, self.rows[rule][first:stop], view)
        return self.kept[key]

    def number(self):
        return len(plainbooks.broken(self.book, self.rows[-1]))

    def below(self, rule, first, stop, view):
        """Where the rule takes the columns from: (rule, first, stop, view), or None."""
        word, i = self.rules[rule][:2]
        sign, order = view
        if word == "bar":
            return None
        size = len(self.rows[i])
        if word == "then" and first < size < stop:
            return None
        if word == "then" and first >= size:
            return (self.rules[rule][2], first - size, stop - size, view)
        if word == "times":
            copy = first // size * size
            return (i, first - copy, stop - copy, view) if stop <= copy + size else None
        if word == "cut":
            return (i, first + self.rules[rule][2], stop + self.rules[rule][2], view)
        if word == "turn":
            return (i, first, stop, (-sign, order))
        if word == "voices":
            return (i, first, stop, (sign, tuple(self.rules[rule][2][v] for v in order)))
        return (i, first, stop, view)

    # Judging.

    def is_row(self, row):
        if type(row) is not tuple or len(row) != 6 or not is_whole(row[0], 0, len(self.rules) - 1):
            return False
        rule, first, stop, view, table, reason = row
        if not is_whole(first, 0, len(self.rows[rule]) - 1) or not is_whole(stop, first + 1, len(self.rows[rule])):
            return False
        if type(view) is not tuple or len(view) != 2 or type(view[0]) is not int or view[0] not in (1, -1):
            return False
        if type(view[1]) is not tuple or [type(v) for v in view[1]] != [int] * self.voices:
            return False
        if sorted(view[1]) != list(range(self.voices)):
            return False
        return repr(table) == repr(self.table(rule, first, stop, view)) and type(reason) is tuple

    def is_founded(self, paper, number):
        rule, first, stop, view, _, reason = paper[number]
        if not all(is_whole(a, 0, number - 1) for a in reason[1:]):
            return False
        others = [paper[a] for a in reason[1:]]
        word = reason[0] if reason else None
        if word == "one":
            return len(reason) == 1 and stop - first == 1
        if word == "bar":
            return len(reason) == 1 and self.rules[rule][0] == "bar"
        if word == "join" and len(reason) == 3:
            a, b = others
            same = a[0] == b[0] == rule and a[3] == b[3] == view
            return same and (a[1], b[2]) == (first, stop) and a[2] == b[1]
        if word == "within" and len(reason) == 2:
            return others[0][:4] == self.below(rule, first, stop, view)
        if word == "again" and len(reason) == 2 and self.rules[rule][0] == "times":
            a = others[0]
            size = len(self.rows[self.rules[rule][1]])
            return (a[0], a[2] - a[1], a[3]) == (rule, stop - first, view) and (first - a[1]) % size == 0
        return False

    def shows(self, paper, number):
        if type(paper) is not tuple or not paper or type(number) is not int:
            return False
        for k, row in enumerate(paper):
            if not self.is_row(row) or not self.is_founded(paper, k):
                return False
        return paper[-1][:4] == self.last and number == self.number()

    # Making.

    def some_paper(self, chance):
        """A paper that is made with any reasons that are right, with rows that nothing needs."""
        rows = []
        self.write(chance, rows, self.last, {})
        return tuple(rows)

    def write(self, chance, rows, key, known):
        """Writes rows up to one about the key, and returns its number."""
        if key in known and chance.random() < 0.9:
            return known[key]
        rule, first, stop, view = key
        ways = ["one"] * (stop - first == 1) + ["bar"] * (self.rules[rule][0] == "bar") + ["join"] * (stop - first > 1)
        ways += ["within"] * 3 * (self.below(*key) is not None)
        if self.rules[rule][0] == "times":
            size = len(self.rows[self.rules[rule][1]])
            others = [k for k in range(first % size, len(self.rows[rule]) - stop + first + 1, size)]
            ways += ["again"] * (len(others) > 1 and chance.random() < 0.4)
        way = chance.choice(ways)
        reason = (way,)
        if way == "join":
            middle = chance.randint(first + 1, stop - 1)
            one = self.write(chance, rows, (rule, first, middle, view), known)
            reason = (way, one, self.write(chance, rows, (rule, middle, stop, view), known))
        if way == "within":
            reason = (way, self.write(chance, rows, self.below(*key), known))
        if way == "again":
            other = chance.choice(others)
            reason = (way, self.write(chance, rows, (rule, other, other + stop - first, view), known))
        rows.append((rule, first, stop, view, self.table(*key), reason))
        known[key] = len(rows) - 1
        if chance.random() < 0.05:
            rows.append((rule, first, first + 1, view, self.table(rule, first, first + 1, view), ("one",)))
            if self.last == key:
                rows.append(rows[-2])
        return known[key]


def some_wrong(chance, thing):
    """Something like the thing, but of another form or with another number."""
    ways = [None, True, False, "one", (), [], {}, {0: 1}, 10 ** 30, -1, 0, 1, 2, [thing], (thing,), deep(44)]
    if type(thing) is int:
        ways = [thing + 1, thing - 1, str(thing), None, -thing, thing == 1, [thing], (thing,), 10 ** 30, True, False]
    if type(thing) is str:
        ways = ["one", "bar", "join", "within", "again", "", thing.upper(), None, 0, (thing,), [thing]]
    if type(thing) is tuple:
        ways += [list(thing), thing[:-1], thing + (0,), thing[1:], thing[::-1], thing + thing[-1:], dict(enumerate(thing))]
    return chance.choice(ways)


def deep(many):
    told = 0
    for k in range(many):
        told = (told,) if k % 2 else [told]
    return told


def changed_within(chance, thing):
    """The thing with one thing within it changed, at any depth, or the thing itself changed."""
    if type(thing) is tuple and thing and chance.random() < 0.85:
        at = chance.randrange(len(thing))
        return thing[:at] + (changed_within(chance, thing[at]),) + thing[at + 1:]
    return some_wrong(chance, thing)

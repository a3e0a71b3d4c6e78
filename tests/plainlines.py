"""Lines and pages the slow and plain way: all breakings are written out and compared."""

from fractions import Fraction


def badness(pieces, first, stop, room):
    """By the words of [L1], in fractions."""
    width, stretch, shrink = [sum(Fraction(*piece[part]) for piece in pieces[first:stop]) for part in range(3)]
    room = Fraction(*room)
    if width == room or (stop == len(pieces) and width <= room):
        return 0
    if width < room:
        return None if stretch == 0 else int(1000 * (room - width) ** 2 / stretch ** 2 // 1)
    return None if width - shrink > room else int(1000 * (width - room) ** 2 / shrink ** 2 // 1)


class PlainLines:
    """Few pieces in a room."""

    def __init__(self, pieces, room):
        self.many = len(pieces)
        self.bad = {
            (first, stop): badness(pieces, first, stop, room)
            for first in range(self.many) for stop in range(first + 1, self.many + 1)
        }

    def lines(self, first):
        return [stop for stop in range(first + 1, self.many + 1) if self.bad[first, stop] is not None]

    def breakings(self, first=0):
        """The ends of all breakings from a place on, by the order of [L3]."""
        if first == self.many:
            return [()]
        return [(stop,) + rest for stop in self.lines(first) for rest in self.breakings(stop)]

    def sum_of(self, ends):
        return sum(self.bad[line] for line in zip((0,) + ends[:-1], ends))

    def best(self):
        ranked = sorted((self.sum_of(ends), len(ends), ends) for ends in self.breakings())
        return (ranked[0][0], ranked[0][2]) if ranked else None

    def potentials(self):
        """The least sums, by mending them as long as there is something to mend."""
        told = {0: 0}
        mended = True
        while mended:
            mended = False
            for (first, stop), bad in self.bad.items():
                if bad is not None and first in told and told[first] + bad < told.get(stop, told[first] + bad + 1):
                    told[stop] = told[first] + bad
                    mended = True
        return tuple(told.get(k) for k in range(self.many + 1))

    def are_potentials(self, told):
        if told[0] != 0:
            return False
        for (first, stop), bad in self.bad.items():
            if bad is not None and told[first] is not None and (told[stop] is None or told[stop] > told[first] + bad):
                return False
        return True


class PlainPages(PlainLines):
    def __init__(self, pieces, room, turns, least, most):
        PlainLines.__init__(self, pieces, room)
        self.turns, self.least, self.most = turns, least, most

    def pagings(self, ends):
        """All ways to put lines with these ends on pages."""
        told = [(ends,)] if 1 <= len(ends) <= self.most else []
        for many in range(self.least, min(self.most, len(ends) - 1) + 1):
            if self.turns[ends[many - 1]] is not None:
                told += [(ends[:many],) + rest for rest in self.pagings(ends[many:])]
        return told

    def cost(self, pages):
        ends = tuple(end for page in pages for end in page)
        return self.sum_of(ends) + sum(self.turns[page[-1]] for page in pages[:-1])

    def best_pages(self):
        ranked = sorted(
            (self.cost(pages), len(pages), sum(len(page) for page in pages), pages)
            for ends in self.breakings() for pages in self.pagings(ends)
        )
        return (ranked[0][0], ranked[0][3]) if ranked else None

    def following(self, place):
        i, k = place
        told = [((stop, k + 1), self.bad[i, stop]) for stop in self.lines(i)] if k < self.most and i < self.many else []
        if k >= self.least and i < self.many and self.turns[i] is not None:
            told.append(((i, 0), self.turns[i]))
        return told

    def page_potentials(self):
        told = {(0, 0): 0}
        mended = True
        while mended:
            mended = False
            for place in list(told):
                for other, cost in self.following(place):
                    if told[place] + cost < told.get(other, told[place] + cost + 1):
                        told[other] = told[place] + cost
                        mended = True
        return tuple(sorted(told.items()))

    def shows(self, told, total):
        """What shows_pages tells of a dict."""
        if told.get((0, 0)) != 0:
            return False
        for place, low in told.items():
            for other, cost in self.following(place):
                if other not in told or told[other] > low + cost:
                    return False
        ends = [low for (i, _), low in told.items() if i == self.many]
        return not ends if total is None else not any(low < total for low in ends)


# What follows makes up pieces.


def pair(fraction):
    return (fraction.numerator, fraction.denominator)


def some_pieces(chance, many, parts=(1, 1, 2, 3)):
    """Pieces that often have just the same lines."""
    told = []
    for _ in range(many):
        width = Fraction(chance.randint(0, 6), chance.choice(parts))
        stretch = Fraction(chance.choice((0, 1, 1, 2)), chance.choice(parts))
        shrink = min(width, Fraction(chance.choice((0, 0, 1, 2)), chance.choice(parts)))
        told.append((pair(width), pair(stretch), pair(shrink)))
    return tuple(told)

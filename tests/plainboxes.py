"""Boxes, gaps and refrains the slow and plain way: every word with all its columns written out."""

from itertools import product

from tests import plainbooks, plainly

# What is no box, with the number of what is wrong in it.
COLUMN = ((1, 4), 0, (((0, 4), True),))
BAR = (COLUMN,)
TWO_VOICES = (((1, 4), 0, (None, None)),)
NO_BOXES = (
    [(thing, None) for thing in (None, True, False, 0, 7, -1, "", "abc", {}, {0: BAR}, (), [], (BAR,) * 13, [BAR] * 13, (None,) * 13)]
    + [((thing,), 0) for thing in (None, True, 0, "", "bar", (), [], {}, COLUMN, (COLUMN,) * 65, (None,), ((),), ("abc",), [[]])]
    + [((BAR, thing), 1) for thing in (None, (), TWO_VOICES, BAR + TWO_VOICES, (COLUMN,) * 65, (((1, 0), 0, (None,)),), (((1, 4), True, (None,)),), (((1, 4), 0, ()),))]
    + [([BAR] * 11 + [BAR + (None,)], 11), ((BAR, TWO_VOICES, None), 1), ((None, None), 0), ((TWO_VOICES, BAR), 1), ((BAR, None) * 6, 1)]
)


def some_box(chance, voices, bars, most=3):
    return tuple(plainly.some_bar(chance, voices, most) for _ in range(bars))


def some_marked_box(chance, voices, bars, most=3):
    """A box in which the first column of each bar, and no other one, has the bar's number as its accent."""
    told = []
    for number in range(bars):
        bar = plainly.some_bar(chance, voices, most)
        told.append(tuple((column[0], 9 if k else number, column[2]) for k, column in enumerate(bar)))
    return tuple(told)


def some_moving_book(chance, box, states, often, ends=()):
    """A book that goes from state to state by the bars of such a box, up to nine of them.

    It goes by what happens at the first columns of bars, too; ends are columns that may stand around the bars.
    """
    bars = len(box)
    before = [plainly.plain_column(bar[-1]) for bar in box] + list(ends)
    behind = [plainly.plain_column(bar[0]) for bar in box] + list(ends)
    tests = tuple(("accent", number) for number in range(bars))
    tests += tuple(plainbooks.test_of_move(chance, chance.choice(before), chance.choice(behind)) for _ in range(5))

    def some_choice(number):
        others = [(chance.randrange(bars, bars + 5),) * (chance.random() < 0.3) for _ in range(2)]
        return ((number,) + others[0], others[1], chance.randrange(states), chance.random() < often)

    def some_state():
        told = [some_choice(number) for number in chance.sample(range(bars), bars)]
        told += [((chance.randrange(bars, bars + 5),), (), chance.randrange(states), chance.random() < 0.2)] * (chance.random() < 0.3)
        return tuple(told + [((), (), chance.randrange(states), False)] * (chance.random() < 0.3))

    return tests, tuple(some_state() for _ in range(states))


def columns_of(box, word):
    return [plainly.plain_column(column) for number in word for column in box[number]]


def lets(box, book, word):
    return not word or not plainbooks.broken(book, columns_of(box, word))


def words(bars, length):
    return list(product(range(bars), repeat=length))


def let_words(box, book, length):
    return [word for word in words(len(box), length) if lets(box, book, word)]


def goes_on(box, book, place, bar, ahead=None):
    """The state behind a bar that comes behind a place (bar, state), or None if the book does not let it there.

    A place without a bar is behind the column ahead, or behind silence.
    """
    last, state = place
    before = ahead if last is None else plainly.plain_column(box[last][-1])
    told = plainbooks.run(book, columns_of(box, (bar,)), state, before)
    return None if any(is_broken for _, is_broken in told) else told[-1][0]


def is_whole(thing, low, high):
    return type(thing) is int and low <= thing <= high


def is_keeping(box, one, other, paper):
    """[H3], word by word."""
    if type(paper) is not tuple:
        return False
    limits = (len(box), len(one[1]), len(other[1]))
    for triple in paper:
        if type(triple) is not tuple or len(triple) != 3:
            return False
        if not all(is_whole(number, 0, limit - 1) for number, limit in zip(triple, limits)):
            return False
    if len(set(paper)) < len(paper):
        return False
    for bar, state, beside in ((None, 0, 0),) + paper:
        for following in range(len(box)):
            behind = goes_on(box, one, (bar, state), following)
            if behind is not None:
                if (following, behind, goes_on(box, other, (bar, beside), following)) not in paper:
                    return False
    return True


class Gap:
    """A gap or a refrain with the columns of its scores, and a book as a pair."""

    def __init__(self, ahead, box, number, behind, book, middle=None):
        self.ahead, self.box, self.number, self.behind, self.book, self.middle = ahead, box, number, behind, book, middle
        self.start = (None, plainbooks.run(book, ahead)[-1][0])
        self.steps = {}

    def fillings(self):
        return [word for word in words(len(self.box), self.number) if self.is_filled(word)]

    def is_filled(self, word):
        row = columns_of(self.box, word)
        if self.middle is not None:
            row = row + self.middle + row
        told = plainbooks.run(self.book, self.ahead + row + self.behind)
        return not any(is_broken for _, is_broken in told[len(self.ahead):])

    def places(self, place):
        """For each bar the place behind a place, or None."""
        if place not in self.steps:
            told = []
            for bar in range(len(self.box)):
                state = goes_on(self.box, self.book, place, bar, self.ahead[-1])
                told.append(None if state is None else (bar, state))
            self.steps[place] = told
        return self.steps[place]

    def fits(self, place):
        before = self.ahead[-1] if place[0] is None else plainly.plain_column(self.box[place[0]][-1])
        return not any(is_broken for _, is_broken in plainbooks.run(self.book, self.behind, place[1], before))

    def levels(self, costs):
        """For each number of bars the places that words lead to, with the least costs."""
        told = [{self.start: 0}]
        for _ in range(self.number):
            following = {}
            for place, low in told[-1].items():
                for bar, other in enumerate(self.places(place)):
                    if other is not None:
                        following[other] = min(following.get(other, 10 ** 30), low + costs[bar])
            told.append(following)
        return told

    def is_place(self, thing, number):
        if type(thing) is not tuple or len(thing) != 2:
            return False
        if number == 0:
            return repr(thing) == repr(self.start)
        return is_whole(thing[0], 0, len(self.box) - 1) and is_whole(thing[1], 0, len(self.book[1]) - 1)

    def is_blocked_by(self, paper):
        """[I4], word by word."""
        if type(paper) is not tuple or len(paper) != self.number + 1:
            return False
        for number, level in enumerate(paper):
            if type(level) is not tuple or not all(self.is_place(place, number) for place in level):
                return False
            if len(set(level)) < len(level):
                return False
        if paper[0] != (self.start,):
            return False
        for level, following in zip(paper, paper[1:]):
            if any(other is not None and other not in following for place in level for other in self.places(place)):
                return False
        return not any(self.fits(place) for place in paper[-1])

    def shows_least(self, costs, told, cost):
        """[I5], word by word."""
        if type(told) is not tuple or len(told) != self.number + 1 or type(cost) is not int:
            return False
        for number, level in enumerate(told):
            if type(level) is not tuple or not all(type(pair) is tuple and len(pair) == 2 for pair in level):
                return False
            if not all(self.is_place(place, number) and type(p) is int and p >= 0 for place, p in level):
                return False
            if len({place for place, _ in level}) < len(level):
                return False
        if told[0] != ((self.start, 0),):
            return False
        for level, following in zip(told, told[1:]):
            there = dict(following)
            for place, p in level:
                for bar, other in enumerate(self.places(place)):
                    if other is not None and (other not in there or there[other] > p + costs[bar]):
                        return False
        return all(p >= cost for place, p in told[-1] if self.fits(place))

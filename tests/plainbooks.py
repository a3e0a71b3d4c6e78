"""Books the slow and plain way: what the tests hold the program against, column by column."""

from fractions import Fraction

from tests import plainly

WORDS = ("accent", "begins", "silent", "loose", "leap", "by", "apart", "class", "lasts", "along")


def silence(voices):
    return ((0, 1), 0, (None,) * voices)


def height(one, other):
    return 7 * (other[0] - one[0]) + 12 * (other[1] - one[1])


def leap(one, other, v):
    """The height by which a voice comes to a tone that begins, or None."""
    if v >= len(other[2]) or one[2][v] is None or other[2][v] is None or not other[2][v][1]:
        return None
    return height(one[2][v][0], other[2][v][0])


def width(column, v, w):
    """The height from one voice up to another one, or None."""
    entries = column[2]
    if max(v, w) >= len(entries) or entries[v] is None or entries[w] is None:
        return None
    return height(entries[v][0], entries[w][0])


def holds(test, one, other):
    word, a = test[0], test[1]
    if word == "accent":
        return other[1] == a
    if word == "lasts":
        if one[0][0] == 0:
            return False
        times = Fraction(*other[0]) / Fraction(*one[0])
        return Fraction(*a) <= times <= Fraction(*test[2])
    if a >= len(other[2]):
        return False
    entry, before = other[2][a], one[2][a]
    if word == "begins":
        return entry is not None and entry[1] is True
    if word == "silent":
        return entry is None
    if word == "loose":
        return entry is not None and entry[1] is False and (before is None or tuple(before[0]) != tuple(entry[0]))
    if word == "leap":
        up = leap(one, other, a)
        return up is not None and test[2] <= up <= test[3]
    if word == "by":
        if leap(one, other, a) is None:
            return False
        (f, o), (g, p) = before[0], entry[0]
        return any((g - f, p - o) == tuple(interval) for interval in test[2])
    if word == "along":
        up, beside = leap(one, other, a), leap(one, other, test[2])
        return up is not None and beside is not None and up * beside > 0
    wide = width(other, a, test[2])
    if word == "apart":
        return wide is not None and test[3] <= wide <= test[4]
    return wide is not None and any((wide - number) % 12 == 0 for number in test[3])


def moved(book, state, one, other):
    """The pair (following state, broken), for a book as a pair (tests, states)."""
    number, row = applying(book, state, one, other)
    return (state, False) if number is None else (row[2], row[3])


def applying(book, state, one, other):
    """The number of the tuple that applies and the tuple, or None twice."""
    tests, states = book
    for number, row in enumerate(states[state]):
        if all(holds(tests[k], one, other) for k in row[0]) and not any(holds(tests[k], one, other) for k in row[1]):
            return number, row
    return None, None


def run(book, columns, state=0, before=None):
    """The pairs (state behind it, broken) of the columns."""
    told = []
    before = before or silence(len(columns[0][2]))
    for column in columns:
        state, broken = moved(book, state, before, column)
        told.append((state, broken))
        before = column
    return tuple(told)


def broken(book, columns):
    return [n for n, (_, is_broken) in enumerate(run(book, columns)) if is_broken]


def table(book, columns, view):
    """The table of the columns in a view."""
    seen = [seen_column(column, view) for column in columns]
    told = []
    for state in range(len(book[1])):
        many = 0
        for one, other in zip(seen, seen[1:]):
            state, is_broken = moved(book, state, one, other)
            many += is_broken
        told.append((state, many))
    return tuple(told)


def seen_column(column, view):
    sign, order = view
    if sign == -1:
        column = plainly.changed_column(column, ("turn", 0, (0, 0)))
    return plainly.changed_column(column, ("voices", 0, order))


# What follows makes up books.


def some_test(chance, word=None, far=6):
    word = word or chance.choice(WORDS)
    v, w = chance.sample(range(4), 2)
    if chance.random() < 0.6:
        v, w = chance.sample(range(2), 2)
    low = chance.randint(-60, 60)
    high = low + chance.randint(-10, 60)
    if word == "accent":
        return (word, chance.choice((0, 1, 9)))
    if word in ("begins", "silent", "loose"):
        return (word, v)
    if word == "leap":
        return (word, v, low, high)
    if word == "by":
        return (word, v, tuple(plainly.some_tone(chance, far) for _ in range(chance.randint(0, 11))) + ((0, 0),) * chance.randint(0, 1))
    if word == "apart":
        return (word, v, w, low, high)
    if word == "class":
        return (word, v, w, tuple(chance.randint(0, 11) for _ in range(chance.randint(0, 12))))
    if word == "along":
        return (word, v, w)
    one, other = plainly.some_fraction(chance, 6), plainly.some_fraction(chance, 6)
    if chance.random() < 0.8 and Fraction(*one) > Fraction(*other):
        one, other = other, one
    return (word, one, other)


def test_of_move(chance, one, other):
    """A test that just holds of the move, as exact as may be, or any one."""
    told = [("accent", other[1])]
    if one[0][0] > 0:
        times = Fraction(*other[0]) / Fraction(*one[0])
        if times <= 1000:
            pair = (times.numerator, times.denominator)
            told += [("lasts", pair, pair)] * 3
    for v in range(len(other[2])):
        for word in ("begins", "silent", "loose"):
            if holds((word, v), one, other):
                told.append((word, v))
        up = leap(one, other, v)
        if up is not None and abs(up) <= 200:
            (f, o), (g, p) = one[2][v][0], other[2][v][0]
            told += [("leap", v, up, up)] * 2
            if max(abs(g - f), abs(p - o)) <= 1000:
                told += [("by", v, ((g - f, p - o),))] * 2
        for w in range(len(other[2])):
            wide = width(other, v, w)
            if v != w and wide is not None:
                told += [("class", v, w, (wide % 12,))] + [("apart", v, w, wide, wide)] * (abs(wide) <= 200)
                told += [("along", v, w)] * holds(("along", v, w), one, other)
    return chance.choice(told)


def moves_of(columns):
    """The moves of the columns, as pairs."""
    return list(zip([silence(len(columns[0][2]))] + list(columns), columns))


def some_book(chance, tests=8, states=5, choices=5, often=0.5, moves=()):
    """A pair (tests, states), so many of each; many of the tests hold of some of the moves, if there are any."""
    rows = tuple(
        test_of_move(chance, *chance.choice(moves)) if moves and chance.random() < 0.7 else some_test(chance) for _ in range(tests)
    )

    def some_numbers(most):
        return tuple(chance.randrange(tests) for _ in range(chance.randint(0, most))) if tests else ()

    def some_choice():
        return (some_numbers(2), some_numbers(1), chance.randrange(states), chance.random() < often)

    return rows, tuple(tuple(some_choice() for _ in range(chance.randint(0, choices))) for _ in range(states))

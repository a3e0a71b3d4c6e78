"""The slow and plain way: what the tests hold the program against, worked out without it."""

from fractions import Fraction

ORDER_OF_FIFTHS = "FCGDAEB"
KEYS_OF_LETTERS = {"C": 0, "D": 2, "E": 4, "F": 5, "G": 7, "A": 9, "B": 11}
KEYS_OF_STEPS = (0, 2, 4, 5, 7, 9, 11)


def tone_name(f, o):
    """By the order of the fifths, and by counting keys from the letter's place in its octave."""
    letter = ORDER_OF_FIFTHS[(f + 1) % 7]
    signs = (f + 1 - (f + 1) % 7) // 7
    octave, rest = divmod(7 * f + 12 * o - signs - KEYS_OF_LETTERS[letter], 12)
    assert rest == 0
    return letter + ("#" * signs if signs > 0 else "b" * -signs) + str(octave)


def interval_name(f, o):
    """By how many keys more or less than the major or perfect interval of the same number it has."""
    up = 4 * f + 7 * o
    if up < 0 or (up == 0 and f < 0):
        return "-" + interval_name(-f, -o)
    more = 7 * f + 12 * o - KEYS_OF_STEPS[up % 7] - 12 * (up // 7)
    if more > 0:
        quality = "A" * more
    elif up % 7 in (0, 3, 4):
        quality = "d" * -more or "P"
    else:
        quality = {0: "M", -1: "m"}.get(more) or "d" * (-more - 1)
    return quality + str(up + 1)


def plain_column(column):
    """The column as tuples."""
    duration, accent, entries = column
    return (tuple(duration), accent, tuple(None if e is None else (tuple(e[0]), e[1]) for e in entries))


def changed_column(column, rule):
    """The column as a rule raise, turn, pace or voices changes it."""
    (n, d), accent, entries = column
    word, _, by = rule
    if word == "pace":
        length = Fraction(n, d) * Fraction(*by)
        return ((length.numerator, length.denominator), accent, entries)
    if word == "voices":
        return ((n, d), accent, tuple(entries[v] for v in by))
    told = []
    for entry in entries:
        if entry is None:
            told.append(None)
        else:
            (f, o), begins = entry
            tone = (f + by[0], o + by[1]) if word == "raise" else (by[0] - f, by[1] - o)
            told.append((tone, begins))
    return ((n, d), accent, tuple(told))


def written(rules):
    """The columns of each rule, written out."""
    rows = []
    for rule in rules:
        word = rule[0]
        if word == "bar":
            row = [plain_column(column) for column in rule[1]]
        elif word == "then":
            row = rows[rule[1]] + rows[rule[2]]
        elif word == "times":
            row = rows[rule[1]] * rule[2]
        elif word == "cut":
            row = rows[rule[1]][rule[2]:rule[3]]
        else:
            row = [changed_column(column, rule) for column in rows[rule[1]]]
        rows.append(row)
    return rows


def moments(columns):
    """The moments of columns, and the one behind them, as Fractions."""
    told = [Fraction(0)]
    for (n, d), _, _ in columns:
        told.append(told[-1] + Fraction(n, d))
    return told


def grid(durations):
    """The greatest fraction of which all are whole multiples, by taking the lesser from the greater."""
    told = Fraction(0)
    for n, d in durations:
        other = Fraction(n, d)
        while other:
            told, other = other, told % other
    return (told.numerator, told.denominator)


def notes(columns, voice):
    """By cutting the columns where a note begins, then adding up what sounds."""
    sounding = [column[2][voice] for column in columns]
    begins = []
    for k, entry in enumerate(sounding):
        ahead = sounding[k - 1] if k > 0 else None
        if entry is not None and (entry[1] or ahead is None or ahead[0] != entry[0]):
            begins.append(k)
    told = []
    for k in begins:
        stop = k + 1
        while stop < len(columns) and sounding[stop] is not None and stop not in begins:
            stop += 1
        length = sum(Fraction(*columns[c][0]) for c in range(k, stop))
        told.append((k, sounding[k][0], (length.numerator, length.denominator)))
    return tuple(told)


# What follows makes up scores, by a source of chance that a test begins by a number, so that it is the same each time.


def some_tone(chance, far):
    return (chance.randint(-far, far), chance.randint(-far, far))


def some_fraction(chance, most):
    told = Fraction(chance.randint(1, most), chance.randint(1, most))
    return (told.numerator, told.denominator)


def some_entry(chance, tones):
    if chance.random() < 0.25:
        return None
    return (chance.choice(tones), chance.random() < 0.5)


def some_bar(chance, voices, most, far=6, parts=8):
    tones = [some_tone(chance, far) for _ in range(3)]
    return tuple(
        (some_fraction(chance, parts), chance.choice((0, 0, 1, 9)), tuple(some_entry(chance, tones) for _ in range(voices)))
        for _ in range(chance.randint(1, most))
    )


def some_rule(chance, voices, counts, most):
    """A right rule behind others that make so many columns each, which makes at most so many itself, or None."""
    i = chance.randrange(len(counts))
    word = chance.choice(("bar", "then", "then", "times", "times", "raise", "turn", "pace", "voices", "cut", "cut"))
    if word == "bar":
        return ("bar", some_bar(chance, voices, 5))
    if word == "then":
        j = chance.randrange(len(counts))
        return (word, i, j) if counts[i] + counts[j] <= most else None
    if word == "times":
        k = chance.randint(1, 5)
        return (word, i, k) if counts[i] * k <= most else None
    if word == "cut":
        first = chance.randrange(counts[i])
        return (word, i, first, chance.randint(first + 1, counts[i]))
    if word == "pace":
        return (word, i, some_fraction(chance, 6))
    if word == "voices":
        return (word, i, tuple(chance.sample(range(voices), voices)))
    return (word, i, some_tone(chance, 5))


def some_rules(chance, many, most=60):
    """Right rules, so many, none of which makes more than so many columns."""
    voices = chance.randint(1, 4)
    rules = [("bar", some_bar(chance, voices, 5))]
    while len(rules) < many:
        rule = some_rule(chance, voices, [len(row) for row in written(rules)], most)
        if rule is not None:
            rules.append(rule)
    return tuple(rules)


def great_rules(chance, many, most=10 ** 12, bar=None):
    """Right rules, so many, that soon make very many columns of a bar, and are cut again and again."""
    voices = chance.randint(1, 4)
    rules = [("bar", some_bar(chance, voices, 64, parts=30) if bar is None else bar)]
    voices = len(rules[0][1][0][2])
    counts = [len(rules[0][1])]
    while len(rules) < many:
        i = chance.choice((len(rules) - 1, len(rules) - 1, chance.randrange(len(rules))))
        j = chance.choice((len(rules) - 1, chance.randrange(len(rules))))
        word = chance.choice(("then", "then", "times", "raise", "turn", "pace", "voices", "cut", "cut"))
        if word == "then" and counts[i] + counts[j] <= most:
            rules.append((word, i, j))
            counts.append(counts[i] + counts[j])
        if word == "times" and counts[i] * 3 <= most:
            k = chance.randint(2, min(most // counts[i], 10 ** chance.randint(1, 4)))
            rules.append((word, i, k))
            counts.append(counts[i] * k)
        if word == "cut":
            first = chance.randrange(1 + counts[i] // 4)
            stop = counts[i] - chance.randrange(1 + counts[i] // 4)
            if first < stop:
                rules.append((word, i, first, stop))
                counts.append(stop - first)
        if word == "pace":
            rules.append((word, i, some_fraction(chance, chance.choice((6, 1000)))))
        if word == "voices":
            rules.append((word, i, tuple(chance.sample(range(voices), voices))))
        if word in ("raise", "turn"):
            rules.append((word, i, some_tone(chance, 5)))
        counts += counts[i:i + 1] * (len(rules) - len(counts))
    return tuple(rules), counts


def column_of(rules, counts, number, n):
    """The column n of the rule with the number, found by going from rule to rule."""
    rule = rules[number]
    word = rule[0]
    if word == "bar":
        return plain_column(rule[1][n])
    i = rule[1]
    if word == "then":
        return column_of(rules, counts, i, n) if n < counts[i] else column_of(rules, counts, rule[2], n - counts[i])
    if word == "times":
        return column_of(rules, counts, i, n % counts[i])
    if word == "cut":
        return column_of(rules, counts, i, n + rule[2])
    return changed_column(column_of(rules, counts, i, n), rule)


def moment_of(rules, counts, number, n, kept):
    """The moment of the column n of a rule as a Fraction, or its duration if n is how many columns it makes."""
    if (number, n) not in kept:
        kept[number, n] = way_to_moment(rules, counts, number, n, kept)
    return kept[number, n]


def way_to_moment(rules, counts, number, n, kept):
    rule = rules[number]
    word = rule[0]
    if word == "bar":
        return moments(rule[1])[n]
    i = rule[1]
    if word == "then" and n > counts[i]:
        return moment_of(rules, counts, i, counts[i], kept) + moment_of(rules, counts, rule[2], n - counts[i], kept)
    if word == "times":
        copies, rest = divmod(n, counts[i])
        return copies * moment_of(rules, counts, i, counts[i], kept) + moment_of(rules, counts, i, rest, kept)
    if word == "cut":
        return moment_of(rules, counts, i, n + rule[2], kept) - moment_of(rules, counts, i, rule[2], kept)
    return moment_of(rules, counts, i, n, kept) * (Fraction(*rule[2]) if word == "pace" else 1)

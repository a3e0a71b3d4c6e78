"""Scores beside one another the slow and plain way: columns are written out and compared one by one."""

import itertools
from fractions import Fraction

from tests import plainly


def pair(fraction):
    return (fraction.numerator, fraction.denominator)


def bring(column, bridge):
    """The column to which a bridge brings a column."""
    sign, order, (f, o), by = bridge
    duration, accent, entries = column
    told = []
    for v in order:
        entry = entries[v]
        told.append(None if entry is None else ((sign * entry[0][0] + f, sign * entry[0][1] + o), entry[1]))
    return (pair(Fraction(*duration) * Fraction(*by)), accent, tuple(told))


def alike_for(row, first, other, second, bridge):
    told = 0
    while first + told < len(row) and second + told < len(other) and bring(row[first + told], bridge) == other[second + told]:
        told += 1
    return told


def alike_back(row, stop, other, end, bridge):
    told = 0
    while told < min(stop, end) and bring(row[stop - told - 1], bridge) == other[end - told - 1]:
        told += 1
    return told


def differences(row, other):
    """What is told of all columns at which two rows differ."""
    told = []
    for number in range(max(len(row), len(other))):
        if number >= min(len(row), len(other)):
            told.append((number, "end", None))
            continue
        one, two = row[number], other[number]
        if len(one[2]) != len(two[2]):
            told.append((number, "voices", None))
        elif one[0] != two[0]:
            told.append((number, "duration", None))
        elif one[1] != two[1]:
            told.append((number, "accent", None))
        elif one[2] != two[2]:
            told.append((number, "entry", next(v for v, entry in enumerate(one[2]) if entry != two[2][v])))
    return told


def bridge_in(row, other, sign, order):
    """The bridge in a view that brings the one row to the other, which is as long, or None."""
    by = Fraction(*other[0][0]) / Fraction(*row[0][0])
    interval = None
    for one, two in zip(row, other):
        for v, w in enumerate(order):
            if interval is None and one[2][w] is not None and two[2][v] is not None:
                interval = tuple(two[2][v][0][part] - sign * one[2][w][0][part] for part in (0, 1))
    bridge = (sign, tuple(order), interval or (0, 0), pair(by))
    return bridge if all(bring(one, bridge) == two for one, two in zip(row, other)) else None


def bridges_between(row, other):
    if len(row) != len(other) or len(row[0][2]) != len(other[0][2]):
        return ()
    views = [(sign, order) for sign in (1, -1) for order in itertools.permutations(range(len(row[0][2])))]
    told = [bridge_in(row, other, sign, order) for sign, order in views]
    return tuple(bridge for bridge in told if bridge is not None)


def follows(row, leader, follower, distance):
    """By holding both voices alone, as rows of one voice without accents, against one another."""
    leading = [(duration, 0, (entries[leader],)) for duration, _, entries in row[:len(row) - distance]]
    following = [(duration, 0, (entries[follower],)) for duration, _, entries in row[distance:]]
    told = [bridge_in(leading, following, sign, (0,)) for sign in (1, -1)]
    return tuple((bridge[0], bridge[2]) for bridge in told if bridge is not None and bridge[3] == (1, 1))


def sequence(row):
    """The least m with its interval and fraction."""
    order = tuple(range(len(row[0][2])))
    for many in range(1, len(row)):
        if len(row) % many == 0:
            bridge = bridge_in(row[:-many], row[many:], 1, order)
            if bridge is not None:
                return (many,) + bridge[2:]
    return (len(row), (0, 0), (1, 1))


def repeated(row):
    return next(many for many in range(1, len(row) + 1) if len(row) % many == 0 and row[:-many] == row[many:] or many == len(row))


# What follows judges papers.


def put_behind(one, other):
    """Found out by bringing two columns of all voices, rather than by reckoning."""
    voices = len(one[1])
    columns = [((1, 1), 0, tuple(((v * k, 7 * k), True) for v in range(1, voices + 1))) for k in (0, 1)]
    told = [bring(bring(column, one), other) for column in columns]
    at = told[0][2][0][0]
    steps = [entry[0][0] - at[0] for entry in told[1][2]]
    sign = 1 if told[1][2][0][0][1] - at[1] == 7 else -1
    return (sign, tuple(sign * step - 1 for step in steps), at, told[0][0])


class PlainLikeJudge:
    """The joint rules of two scores of few columns, written out."""

    REASONS = {"bar": 0, "same": 0, "made": 0, "mute": 1, "part": 1, "join": 2, "back": 1, "through": 2, "round": 3}

    def __init__(self, rules, others):
        self.rules = list(rules)
        ahead = len(rules)
        for rule in others:
            many = {"bar": 0, "then": 2}.get(rule[0], 1)
            self.rules.append(rule[:1] + tuple(i + ahead for i in rule[1:1 + many]) + rule[1 + many:])
        self.ends = (ahead - 1, len(self.rules) - 1)
        self.rows = plainly.written(rules) + plainly.written(others)
        self.voices = len(self.rows[0][0][2])
        self.same_voices = self.voices == len(self.rows[-1][0][2])

    def origin(self, rule, number):
        """The rule and the number from which a rule takes a column, and the copy of times."""
        told = self.rules[rule]
        i = told[1]
        if told[0] == "then" and number >= len(self.rows[i]):
            return told[2], number - len(self.rows[i]), 1
        if told[0] == "times":
            return i, number % len(self.rows[i]), number // len(self.rows[i])
        return i, number + told[2] if told[0] == "cut" else number, 0

    def bridge(self, rule):
        told = self.rules[rule]
        sign, order, interval, by = 1, tuple(range(self.voices)), (0, 0), (1, 1)
        if told[0] == "raise":
            interval = told[2]
        if told[0] == "turn":
            sign, interval = -1, told[2]
        if told[0] == "voices":
            order = told[2]
        if told[0] == "pace":
            by = told[2]
        return (sign, tuple(order), tuple(interval), tuple(by))

    def is_opposite(self, one, other):
        return put_behind(one, other) == (1, tuple(range(self.voices)), (0, 0), (1, 1))

    def is_bridge(self, thing):
        def whole(number):
            return type(number) is int

        if type(thing) is not tuple or len(thing) != 4 or not all(type(part) is tuple for part in thing[1:]):
            return False
        sign, order, interval, by = thing
        if not whole(sign) or sign not in (1, -1) or not all(map(whole, order + interval + by)):
            return False
        if sorted(order) != list(range(self.voices)) or len(interval) != 2 or len(by) != 2:
            return False
        return by[0] > 0 and by[1] > 0 and pair(Fraction(*by)) == by

    def is_row(self, row, number):
        if type(row) is not tuple or len(row) != 7 or not all(type(part) is int for part in row[:5]):
            return False
        rule, first, other, second, many, bridge, reason = row
        for r, begin in ((rule, first), (other, second)):
            if not 0 <= r < len(self.rules) or begin < 0 or many < 1 or begin + many > len(self.rows[r]):
                return False
        if not self.is_bridge(bridge) or type(reason) is not tuple or not reason or type(reason[0]) is not str:
            return False
        if len(reason) - 1 != self.REASONS.get(reason[0]):
            return False
        return all(type(k) is int and 0 <= k < number for k in reason[1:])

    def shows(self, bridge, paper):
        if type(paper) is not tuple or not paper or not self.same_voices:
            return False
        for number, row in enumerate(paper):
            if not self.is_row(row, number) or not self.is_founded(row, [paper[k] for k in row[6][1:]]):
                return False
            # What is founded is true.
            rule, first, other, second, many, by, _ = row
            brought = [bring(column, by) for column in self.rows[rule][first:first + many]]
            assert brought == self.rows[other][second:second + many], row
        one, other = self.ends
        return paper[-1][:6] == (one, 0, other, 0, len(self.rows[one]), bridge) and len(self.rows[one]) == len(self.rows[other])

    def is_founded(self, row, told):
        rule, first, other, second, many, bridge, reason = row
        word = reason[0]
        plain = (1, tuple(range(self.voices)), (0, 0), (1, 1))
        if word == "bar":
            brought = [bring(column, bridge) for column in self.rows[rule][first:first + many]]
            return self.rules[rule][0] == self.rules[other][0] == "bar" and brought == self.rows[other][second:second + many]
        if word == "same":
            if rule != other or bridge != plain:
                return False
            return first == second or self.rules[rule][0] == "times" and (first - second) % len(self.rows[self.rules[rule][1]]) == 0
        if word == "made":
            if self.rules[rule][0] == "bar" or not self.is_opposite(self.bridge(rule), bridge):
                return False
            begun = self.origin(rule, first)
            return all(self.origin(rule, first + k) == (other, second + k, begun[2]) for k in range(many))
        one = told[0]
        same_rules = (one[0], one[2], one[5]) == (rule, other, bridge)
        if word == "mute":
            silent = all(entry is None for column in self.rows[rule][first:first + many] for entry in column[2])
            return silent and one[:5] == row[:5] and (one[5][0], one[5][1], one[5][3]) == (bridge[0], bridge[1], bridge[3])
        if word == "part":
            ahead = first - one[1]
            return same_rules and ahead == second - one[3] and ahead >= 0 and first + many <= one[1] + one[4]
        if word == "join":
            two = told[1]
            if not same_rules or (two[0], two[2], two[5]) != (rule, other, bridge):
                return False
            middle = first + one[4], second + one[4]
            return (one[1], one[3]) == (first, second) and (two[1], two[3]) == middle and middle[0] + two[4] == first + many
        if word == "back":
            return one[:5] == (other, second, rule, first, many) and self.is_opposite(one[5], bridge)
        if word == "through":
            two = told[1]
            if one[:2] != (rule, first) or two[:2] != one[2:4] or two[2:4] != (other, second):
                return False
            return one[4] == two[4] == many and put_behind(one[5], two[5]) == bridge
        two, begun = told[1:]
        size = begun[4]
        if not size < many or begun[:4] != row[:4] or begun[5] != bridge:
            return False
        if one[:5] != (rule, first, rule, first + size, many - size) or two[:5] != (other, second, other, second + size, many - size):
            return False
        return put_behind(one[5], bridge) == put_behind(bridge, two[5])


# What follows makes up scores that are often alike in places.


def some_columns(chance, many, voices, tones=2, silent=0.25):
    return tuple(
        (
            (1, chance.choice((4, 4, 2))), chance.choice((0, 0, 0, 1)),
            tuple(None if chance.random() < silent else ((chance.randrange(tones), 4), chance.random() < 0.8) for _ in range(voices)),
        )
        for _ in range(many)
    )


def some_rules(chance, many, most, voices):
    """Rules over few columns that often come again."""
    rules = [("bar", some_columns(chance, chance.randint(1, 4), voices))]
    while len(rules) < many:
        rule = plainly.some_rule(chance, voices, [len(row) for row in plainly.written(rules)], most)
        if rule is None:
            continue
        if rule[0] == "bar":
            rule = ("bar", some_columns(chance, chance.randint(1, 4), voices))
        if rule[0] in ("raise", "turn"):
            rule = (rule[0], rule[1], chance.choice(((1, 0), (0, 0), (-1, 0), (0, 8))))
        if rule[0] == "pace":
            rule = ("pace", rule[1], chance.choice(((2, 1), (1, 2))))
        rules.append(rule)
    return tuple(rules)


def some_bridge(chance, voices):
    order = tuple(chance.sample(range(voices), voices)) if chance.random() < 0.4 else tuple(range(voices))
    return (chance.choice((1, 1, -1)), order, chance.choice(((0, 0), (0, 0), (1, 0), (2, -1), (0, 16))), chance.choice(((1, 1), (1, 1), (2, 1), (2, 3))))


def uneven_rules(chance, bar, many=60, most=10 ** 12):
    """Rules each of which takes the one ahead of it, and something else far back, so that they are nested unevenly."""
    rules, counts, voices = [("bar", bar)], [len(bar)], len(bar[0][2])
    while len(rules) < many:
        last = len(rules) - 1
        n = counts[last]
        word = chance.choice(("then", "then", "then", "then", "cut", "raise", "pace", "turn", "voices", "times"))
        if word == "then":
            other = chance.choice((last, chance.randrange(len(rules)), chance.randrange(len(rules))))
            if n + counts[other] <= most:
                rules.append((word, last, other) if chance.random() < 0.5 else (word, other, last))
                counts.append(n + counts[other])
        if word == "cut":
            first, stop = chance.choice((0, 1, chance.randrange(1 + n // 3))), n - chance.choice((0, 1, chance.randrange(1 + n // 3)))
            if first < stop:
                rules.append((word, last, first, stop))
                counts.append(stop - first)
        if word == "times" and n * 10 <= most:
            rules.append((word, last, chance.choice((2, 3, 7, 10))))
            counts.append(n * rules[-1][2])
        if word in ("raise", "turn"):
            rules.append((word, last, (chance.randint(-2, 2), chance.randint(-2, 2))))
        if word == "pace":
            rules.append((word, last, chance.choice(((2, 1), (1, 2), (3, 2)))))
        if word == "voices":
            rules.append((word, last, tuple(chance.sample(range(voices), voices))))
        counts += [n] * (len(rules) - len(counts))
    return tuple(rules)


def brought_rules(rules, bridge):
    """Rules that make what the bridge brings the last of the rules to."""
    sign, order, interval, by = bridge
    told = list(rules)
    if sign < 0:
        told.append(("turn", len(told) - 1, (0, 0)))
    for word, what in (("voices", order), ("raise", interval), ("pace", by)):
        told.append((word, len(told) - 1, what))
    return tuple(told)

"""Sums over the columns of great scores, by which a test sees that two parts are alike; unlike ones are so by a rare chance only.

The program may not reckon so; the tests may, since their scores are the same each time.
"""

PRIME = 2 ** 61 - 1
PLACE, FIFTH, OCTAVE = 123456789123456, 987654321987, 192837465564738
BEGINS = {True: 777777777771, False: 3333333333337}


def power(base, exponent):
    return pow(base, exponent, PRIME)


def of_tone(tone, sign):
    return power(FIFTH, sign * tone[0]) * power(OCTAVE, sign * tone[1]) % PRIME


class Sums:
    """For parts of rules (how many columns, the sum of durations, of accents, and for each voice of entries as they are and turned).

    Each column counts times a power of one number, which tells its place.
    """

    def __init__(self, score):
        self.rules, self.sizes, self.voices = score.rules, score.counts(), score.voices
        self.kept = {}

    def of_columns(self, columns):
        durations = accents = 0
        entries = [[0, 0] for _ in range(self.voices)]
        for number, ((n, d), accent, row) in enumerate(columns):
            place = power(PLACE, number)
            durations += place * n * power(d, -1)
            accents += place * accent
            for v, entry in enumerate(row):
                if entry is not None:
                    for k, sign in enumerate((1, -1)):
                        entries[v][k] = (entries[v][k] + place * of_tone(entry[0], sign) * BEGINS[entry[1]]) % PRIME
        return (len(columns), durations % PRIME, accents % PRIME, tuple(map(tuple, entries)))

    def joined(self, one, other):
        place = power(PLACE, one[0])
        entries = tuple(tuple((a + place * b) % PRIME for a, b in zip(row, more)) for row, more in zip(one[3], other[3]))
        return (one[0] + other[0], (one[1] + place * other[1]) % PRIME, (one[2] + place * other[2]) % PRIME, entries)

    def times(self, one, many):
        told = None
        while many:
            if many % 2:
                told = one if told is None else self.joined(told, one)
            one, many = self.joined(one, one), many // 2
        return told

    def changed(self, one, rule):
        many, durations, accents, entries = one
        if rule[0] in ("raise", "turn"):
            by = of_tone(rule[2], 1), of_tone(rule[2], -1)
            rows = entries if rule[0] == "raise" else [row[::-1] for row in entries]
            return (many, durations, accents, tuple(tuple(part * by[k] % PRIME for k, part in enumerate(row)) for row in rows))
        if rule[0] == "pace":
            return (many, durations * rule[2][0] * power(rule[2][1], -1) % PRIME, accents, entries)
        if rule[0] == "voices":
            return (many, durations, accents, tuple(entries[v] for v in rule[2]))
        return one

    def brought(self, one, bridge):
        sign, order, interval, by = bridge
        if sign < 0:
            one = self.changed(one, ("turn", 0, (0, 0)))
        for word, what in (("voices", order), ("raise", interval), ("pace", by)):
            one = self.changed(one, (word, 0, what))
        return one

    def part(self, first, stop, number=None):
        """What belongs to the columns from first up to stop of the rule with the number, or of the last one."""
        key = (len(self.rules) - 1 if number is None else number, first, stop)
        if key not in self.kept:
            self.kept[key] = self.worked_out(*key)
        return self.kept[key]

    def worked_out(self, number, first, stop):
        rule = self.rules[number]
        if rule[0] == "bar":
            return self.of_columns(rule[1][first:stop])
        i, size = rule[1], self.sizes[rule[1]]
        parts = []
        if rule[0] == "then":
            if first < size:
                parts.append(self.part(first, min(stop, size), i))
            if stop > size:
                parts.append(self.part(max(first - size, 0), stop - size, rule[2]))
        elif rule[0] == "times":
            copies = range(first // size, -(-stop // size))
            for k in sorted({copies[0], copies[-1]}):
                parts.append(self.part(max(first - k * size, 0), min(stop - k * size, size), i))
            if len(copies) > 2:
                parts.insert(1, self.times(self.part(0, size, i), len(copies) - 2))
        else:
            shift = rule[2] if rule[0] == "cut" else 0
            parts.append(self.part(first + shift, stop + shift, i))
        told = parts[0]
        for more in parts[1:]:
            told = self.joined(told, more)
        return self.changed(told, rule)

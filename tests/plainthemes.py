"""Themes and kinds of rows of notes the slow and plain way: each row of notes of written columns is held against each other one."""

from fractions import Fraction

from tests import plainly


def pair(fraction):
    return (fraction.numerator, fraction.denominator)


class PlainVoice:
    """The notes of a voice of columns that are written out."""

    def __init__(self, columns, voice):
        self.notes = plainly.notes(columns, voice)
        moments = plainly.moments(columns)
        self.begins = [moments[column] for column, _, _ in self.notes]
        self.lengths = [Fraction(*length) for _, _, length in self.notes]

    def row(self, first, many):
        """The pairs (tone, length) of so many notes from a note on, or None if one does not end where the next one begins."""
        if first + many > len(self.notes):
            return None
        for n in range(first, first + many - 1):
            if self.begins[n] + self.lengths[n] != self.begins[n + 1]:
                return None
        return [(self.notes[n][1], self.lengths[n]) for n in range(first, first + many)]

    def way(self, first, theme, manner):
        """The way in which a theme stands at a note, or None."""
        row = self.row(first, len(theme))
        if row is None:
            return None
        by = row[0][1] / Fraction(*theme[0][1])
        if by != 1 and not manner[1]:
            return None
        for (_, length), (_, wanted) in list(zip(row, theme))[:-1]:
            if length != Fraction(*wanted) * by:
                return None
        for sign in (1, -1) if manner[0] else (1,):
            if all(
                row[k + 1][0][part] - row[k][0][part] == sign * (theme[k + 1][0][part] - theme[k][0][part])
                for k in range(len(theme) - 1) for part in (0, 1)
            ):
                return (sign, pair(by))
        return None

    def places(self, theme, manner):
        """What is told of all places of a theme."""
        told = []
        for n, (column, tone, _) in enumerate(self.notes):
            way = self.way(n, theme, manner)
            if way is not None:
                told.append((n, column, way, tuple(tone[part] - way[0] * theme[0][0][part] for part in (0, 1))))
        return told

    def theme(self, first, many):
        """The theme of so many notes from a note on."""
        home, unit = self.notes[first][1], self.lengths[first]
        return tuple(
            ((self.notes[n][1][0] - home[0], self.notes[n][1][1] - home[1]), pair(self.lengths[n] / unit))
            for n in range(first, first + many)
        )

    def kinds(self, many, upside):
        """The rows of the first notes of the rows of so many notes of each kind, in the order in which the kinds begin."""
        told = []
        for n in range(len(self.notes)):
            row = self.row(n, many)
            if row is None:
                continue
            theme = [(tone, pair(length)) for tone, length in row]
            for kind in told:
                if self.way(kind[0], theme, (upside, True)) is not None:
                    kind.append(n)
                    break
            else:
                told.append([n])
        return told

    def commonest(self, many, upside):
        kinds = self.kinds(many, upside)
        most = max([len(kind) for kind in kinds], default=0)
        return next(((kind[0], most) for kind in kinds if len(kind) == most), None)

    def longest_twice(self, upside):
        for many in range(min(40, len(self.notes)), 1, -1):
            for kind in self.kinds(many, upside):
                if len(kind) > 1:
                    return (many, kind[0], kind[1])
        return None


# What follows makes up scores in which themes come again.


def some_melody(chance, many, tones=3, lengths=2, gaps=0.0, voices=1):
    """A bar of some voices, all of them notes of few tones and lengths."""
    told = []
    for _ in range(many):
        entries = []
        for _ in range(voices):
            tone = (chance.randrange(tones), 4)
            entries.append(None if chance.random() < gaps else (tone, chance.random() < 0.8))
        told.append(((1, 4 * chance.randint(1, lengths)), chance.choice((0, 1)), tuple(entries)))
    return tuple(told)


def some_theme(chance, voice, most=40):
    """A theme of a voice of written columns, in another key, perhaps turned, paced, or with one thing changed; or any theme."""
    many = chance.randint(2, min(most, max(2, len(voice.notes))))
    starts = [n for n in range(len(voice.notes)) if voice.row(n, many)]
    if not starts:
        return tuple(((chance.randint(-2, 2), 4), (1, chance.randint(1, 4))) for _ in range(many))
    row = voice.row(chance.choice(starts), many)
    sign, by = chance.choice((1, 1, 1, -1)), chance.choice((1, 1, Fraction(1, 2), Fraction(5, 3)))
    f, o = chance.choice(((0, 0), (3, -2), (10 ** 20, -7)))
    told = [((sign * tone[0] + f, sign * tone[1] + o), pair(length * by)) for tone, length in row]
    at = chance.randrange(many)
    way = chance.randrange(5)
    if way == 0:
        told[at] = ((told[at][0][0] + 1, told[at][0][1]), told[at][1])
    if way == 1:
        told[at] = (told[at][0], pair(Fraction(*told[at][1]) * 2))
    return tuple(told)

"""How far the voices of a score reach."""

from counterheld.folds import Fold
from counterheld.lines import check_voice
from counterheld.moments import check_part
from counterheld.notefolds import changed_tone, voice_below
from counterheld.reaches import reach_of
from counterheld.tones import between, height

MOST_SIGNS = 7


class Extremes(Fold):
    """The tone of a voice that lies farthest up or down; the way is (voice, 1 for up or -1 for down).

    Told is (how many columns there are, the tone and the number of its first column, or None).
    """

    def of_columns(self, columns, way):
        voice, sign = way
        told = None
        for number, (_, _, entries) in enumerate(columns):
            if entries[voice] is not None:
                tone = entries[voice][0]
                if told is None or sign * height(tone) > sign * height(told[0]):
                    told = (tone, number)
        return (len(columns), told, sign)

    def joined(self, one, other):
        size, told, sign = one
        if other[1] is not None:
            tone, number = other[1]
            if told is None or sign * height(tone) > sign * height(told[0]):
                told = (tone, size + number)
        return (size + other[0], told, sign)

    def many_times(self, one, many):
        return (one[0] * many, one[1], one[2])

    def way_below(self, rule, way):
        voice, sign = way
        return (voice_below(rule, voice), -sign if rule[0] == "turn" else sign)

    def changed(self, one, rule, way):
        size, told, _ = one
        if told is not None:
            told = (changed_tone(told[0], rule), told[1])
        return (size, told, way[1])


class Widths(Fold):
    """The greatest height from a voice up to another one; the way is the pair of both voices.

    Told is (how many columns there are, the height and the number of its first column, or None).
    """

    def of_columns(self, columns, way):
        told = None
        for number, (_, _, entries) in enumerate(columns):
            one, other = entries[way[0]], entries[way[1]]
            if one is not None and other is not None:
                width = height(between(one[0], other[0]))
                if told is None or width > told[0]:
                    told = (width, number)
        return (len(columns), told)

    def joined(self, one, other):
        size, told = one
        if other[1] is not None and (told is None or other[1][0] > told[0]):
            told = (other[1][0], size + other[1][1])
        return (size + other[0], told)

    def many_times(self, one, many):
        return (one[0] * many, one[1])

    def way_below(self, rule, way):
        one, other = voice_below(rule, way[0]), voice_below(rule, way[1])
        # What is turned has the same heights the other way round.
        return (other, one) if rule[0] == "turn" else (one, other)

    def changed(self, one, rule, way):
        return one


def highest(score, voice, first, stop):
    """The highest tone of a voice in a part with the number of its first column, or None."""
    return _farthest(score, voice, first, stop, 1)


def lowest(score, voice, first, stop):
    """The lowest tone of a voice in a part with the number of its first column, or None."""
    return _farthest(score, voice, first, stop, -1)


def _farthest(score, voice, first, stop, sign):
    check_voice(score, voice)
    check_part(score, first, stop)
    fold = score.plan.kept("extremes")
    if fold is None:
        fold = score.plan.keep("extremes", Extremes(score.plan))
    told = fold.of(score.plan.last(), first, stop, (voice, sign))[1]
    return None if told is None else (told[0], first + told[1])


def widest(score, one, other):
    """The greatest height from voice one up to voice other with its first column, or None."""
    check_voice(score, one)
    check_voice(score, other)
    return Widths(score.plan).of_score((one, other))[1]


def signatures(score, first, stop):
    """The numbers from -7 to 7 of the signatures whose keys have all tones of a part."""
    check_part(score, first, stop)
    reach = reach_of(score).of(score.plan.last(), first, stop)
    told = []
    for s in range(-MOST_SIGNS, MOST_SIGNS + 1):
        if reach is None or (s - 1 <= reach[0][0] and reach[1][0] <= s + 5):
            told.append(s)
    return tuple(told)

"""Names of tones and intervals, written and read."""

from counterheld.errors import ScoreError
from counterheld.kinds import is_tone
from counterheld.numerals import number_in
from counterheld.tones import opposite, steps, with_steps

LETTERS = "CDEFGAB"
# The f without signs of each letter, and of each number of steps that an interval goes up.
PLAIN = (0, 2, 4, -1, 1, 3, 5)
# The numbers of steps of intervals that are perfect, not major or minor.
PERFECT = (0, 3, 4)
# No name within the limits has a number of more figures.
MOST_FIGURES = 6


class BadName(ScoreError):
    """A text that is no name."""

    def __init__(self, text):
        ScoreError.__init__(self, "the text is no such name")
        self.text = text


def letter_name(f):
    """The letter and the signs of the tones with this f."""
    a = (f + 1) // 7
    return LETTERS[4 * f % 7] + "#" * a + "b" * -a


def tone_name(tone):
    return letter_name(tone[0]) + str(steps(tone) // 7)


def interval_name(interval):
    up = steps(interval)
    if up < 0 or (up == 0 and interval[0] < 0):
        return "-" + interval_name(opposite(interval))
    place = up % 7
    c = (interval[0] - PLAIN[place]) // 7
    return _quality(c, place in PERFECT) + str(up + 1)


def _quality(c, perfect):
    if c > 0:
        return "A" * c
    if perfect:
        return "d" * -c if c < 0 else "P"
    if c > -2:
        return "m" if c < 0 else "M"
    return "d" * (-c - 1)


def read_tone(text):
    tone = _tone_meant(text)
    # What is meant is written again, since a name has just one way to be written.
    if not is_tone(tone) or tone_name(tone) != text:
        raise BadName(text)
    return tone


def _tone_meant(text):
    """The tone whose name the text would be, if it is a name at all, or None."""
    figures = text[1:].lstrip("#b")
    octave = number_in(figures, MOST_FIGURES)
    letter = LETTERS.find(text[:1])
    if octave is None or letter < 0:
        return None
    signs = text[1:len(text) - len(figures)]
    f = PLAIN[letter] + 7 * (signs.count("#") - signs.count("b"))
    return with_steps(f, 7 * octave + letter)


def read_interval(text):
    interval = _interval_meant(text)
    if not is_tone(interval) or interval_name(interval) != text:
        raise BadName(text)
    return interval


def _interval_meant(text):
    """The interval whose name the text would be, if it is a name at all, or None."""
    if text[:1] == "-":
        upward = _interval_meant_upward(text[1:])
        return None if upward is None else opposite(upward)
    return _interval_meant_upward(text)


def _interval_meant_upward(text):
    figures = text.lstrip("PMmAd")
    number = number_in(figures, MOST_FIGURES)
    if number is None:
        return None
    place = (number - 1) % 7
    c = _signs_meant(text[:len(text) - len(figures)], place in PERFECT)
    return with_steps(PLAIN[place] + 7 * c, number - 1)


def _signs_meant(quality, perfect):
    lesser = quality.count("d")
    if lesser > 0 and not perfect:
        # Between "M" and "d" stands "m".
        lesser += 1
    return quality.count("A") - quality.count("m") - lesser

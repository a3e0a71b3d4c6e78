"""Texts of bars, written and read."""

from counterheld.columns import MOST_VOICES, check_bar
from counterheld.errors import ScoreError
from counterheld.kinds import is_short_fraction
from counterheld.names import BadName, read_tone, tone_name
from counterheld.numerals import fraction_in, fraction_text, number_in

# Durations of bars have numbers up to 1000.
MOST_FIGURES = 4


class BadText(ScoreError):
    """A text that is no bar's: the position of the first wrong column."""

    def __init__(self, position):
        ScoreError.__init__(self, "the text is no bar's")
        self.position = position


def bar_text(bar):
    return " | ".join([_column_text(column) for column in bar])


def _column_text(column):
    duration, accent, entries = column
    mark = "" if accent == 0 else f"!{accent}"
    words = [fraction_text(duration) + mark]
    for entry in entries:
        words.append(_entry_text(entry))
    return " ".join(words)


def _entry_text(entry):
    if entry is None:
        return "-"
    tone, begins = entry
    return tone_name(tone) if begins else "~" + tone_name(tone)


def read_bar(text):
    bar = []
    start = 0
    for piece in text.split("|"):
        column = _column_in(piece)
        if column is None or (bar and len(column[2]) != len(bar[0][2])):
            raise BadText(start + len(piece) - len(piece.lstrip(" ")))
        bar.append(column)
        start += len(piece) + 1
    return check_bar(bar)


def _column_in(text):
    """The column that the text writes, with spaces around it or not, or None."""
    words = [word for word in text.split(" ") if word]
    if not 2 <= len(words) <= 1 + MOST_VOICES:
        return None
    duration, mark, accent = words[0].partition("!")
    length = fraction_in(duration, MOST_FIGURES)
    weight = number_in(accent, 1) if mark else 0
    if not is_short_fraction(length) or weight is None or (mark and weight < 1):
        return None
    try:
        entries = [_entry_in(word) for word in words[1:]]
    except BadName:
        return None
    return (length, weight, entries)


def _entry_in(word):
    """The entry that the word writes; raises BadName if it writes none."""
    if word == "-":
        return None
    if word[0] == "~":
        return (read_tone(word[1:]), False)
    return (read_tone(word), True)

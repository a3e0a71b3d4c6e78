"""Columns and bars: what is a bar, what is done to its columns, and the notes in them."""

from counterheld.errors import ScoreError
from counterheld.fractions import product, sum_of
from counterheld.kinds import is_pair, is_row, is_short_fraction, is_tone, is_whole
from counterheld.tones import added, between

MOST_COLUMNS = 64
MOST_VOICES = 4
MOST_ACCENT = 9


class BadColumn(ScoreError):
    """What is no bar: the number of the first wrong column, or None, and the reason."""

    def __init__(self, number, reason):
        ScoreError.__init__(self, "no bar: " + reason)
        self.number = number
        self.reason = reason


def check_bar(columns):
    """The bar as tuples; whatever it is, what is wrong with it is told by BadColumn."""
    if not is_row(columns) or not 1 <= len(columns) <= MOST_COLUMNS:
        raise BadColumn(None, "count")
    voices = None
    for number, column in enumerate(columns):
        reason = _reason(column, voices)
        if reason is not None:
            raise BadColumn(number, reason)
        voices = len(column[2])
    return as_tuples(columns)


def _reason(column, voices):
    """Why it is no column with so many voices, None standing for any number; None if it is one."""
    if not is_row(column) or len(column) != 3:
        return "column"
    duration, accent, entries = column
    if not is_short_fraction(duration):
        return "duration"
    if not is_whole(accent, 0, MOST_ACCENT):
        return "accent"
    if not is_row(entries) or not 1 <= len(entries) <= MOST_VOICES:
        return "voices"
    if voices is not None and len(entries) != voices:
        return "voices"
    if not all([_is_entry(entry) for entry in entries]):
        return "entry"
    return None


def _is_entry(thing):
    if thing is None:
        return True
    return is_pair(thing) and is_tone(thing[0]) and isinstance(thing[1], bool)


def tuple_of(tone):
    f, o = tone
    return (f, o)


def as_tuples(bar):
    return _with_tones(bar, tuple_of)


def raised(bar, interval):
    return _with_tones(bar, lambda tone: added(tone, interval))


def turned(bar, total):
    return _with_tones(bar, lambda tone: between(tone, total))


def paced(bar, by):
    return tuple([(product(duration, by), accent, _entries(entries, tuple_of)) for duration, accent, entries in bar])


def exchanged(bar, order):
    """The columns in whose entry v stands what stood in the entry order[v]."""
    return _with_tones([(duration, accent, [entries[v] for v in order]) for duration, accent, entries in bar], tuple_of)


def _with_tones(bar, change):
    """The columns as tuples, in whose entries stands what change makes of each tone."""
    return tuple([(tuple(duration), accent, _entries(entries, change)) for duration, accent, entries in bar])


def _entries(entries, change):
    return tuple([None if entry is None else (change(entry[0]), entry[1]) for entry in entries])


def notes(bar, voice):
    """The tuple of (number of the column, tone, length) of the notes of a voice in these columns alone."""
    told = []
    before = None
    for number, (duration, _, entries) in enumerate(bar):
        tone = None
        if entries[voice] is not None:
            tone = tuple_of(entries[voice][0])
            if entries[voice][1] or tone != before:
                told.append((number, tone, tuple(duration)))
            else:
                start, _, length = told[-1]
                told[-1] = (start, tone, sum_of(length, duration))
        before = tone
    return tuple(told)

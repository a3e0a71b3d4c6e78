"""Themes: rows of notes that stand in a voice in any key, upside down, slower and faster; and kinds of such rows."""

from counterheld.errors import ScoreError
from counterheld.figures import figures_of
from counterheld.fractions import fraction
from counterheld.kinds import is_fraction, is_number, is_pair, is_row
from counterheld.lines import NoNote, check_voice, note_count, notes_ahead, notes_from
from counterheld.moments import check_part
from counterheld.phrases import MOST_NOTES
from counterheld.scores import TooLong
from counterheld.seeking import search_of
from counterheld.tones import added, between

LEAST_NOTES = 2
# The most paces at which the rules of a score may come together, where a theme is sought at its own pace.
MOST_PACES = 1000


class BadTheme(ScoreError):
    """What is no theme."""


class NoPlace(ScoreError):
    """The theme has no such place."""


def _checked_theme(theme):
    """The theme as tuples; whatever it is, what is no theme is told by BadTheme."""
    if not is_row(theme) or not LEAST_NOTES <= len(theme) <= MOST_NOTES:
        raise BadTheme("no row of so many notes")
    told = []
    for pair in theme:
        if not is_pair(pair):
            raise BadTheme("no pair of a tone and a length")
        tone, length = pair
        if not is_pair(tone) or not all([is_number(number) for number in tone]):
            raise BadTheme("no tone")
        if not is_fraction(length) or length[0] <= 0:
            raise BadTheme("no length")
        told.append((tuple(tone), tuple(length)))
    return tuple(told)


def _search(score, voice, theme, manner):
    """The search for a theme in a voice; raises for what is wrong, and for too many paces."""
    check_voice(score, voice)
    checked = _checked_theme(theme)
    if not manner[1] and not _are_few_paces(score.plan):
        raise TooLong("the rules come at too many paces")
    return search_of(score, voice, checked, manner)


def _are_few_paces(plan):
    """Whether the numbers of different paces of all rules are together no more than may be."""
    paces = {number: {} for number in range(len(plan.rules))}
    paces[plan.last()][(1, 1)] = True
    many = 0
    for number in range(plan.last(), -1, -1):
        many += len(paces[number])
        if many > MOST_PACES:
            return False
        for below, by in plan.below(number):
            for n, d in list(paces[number]):
                paces[below][fraction(n * by[0], d * by[1])] = True
    return True


def theme_count(score, voice, theme, manner):
    """How many places a theme has in a voice."""
    return _search(score, voice, theme, manner).total


def theme_place(score, voice, theme, manner, number):
    """The tuple (note, column, (sign, by), interval) of a place."""
    search = _search(score, voice, theme, manner)
    if not 0 <= number < search.total:
        raise NoPlace("no such place")
    first = search.place(number)
    rows = notes_from(score, voice, first, len(search.theme))
    column, tone, (n, d) = rows[0]
    home, length = search.theme[0]
    by = fraction(n * length[1], d * length[0])
    if search.stands_upright([told[1] for told in rows]):
        return (first, column, (1, by), between(home, tone))
    return (first, column, (-1, by), added(home, tone))


def theme_in(score, voice, theme, manner, first, stop):
    """How many places begin in the columns from first up to stop."""
    search = _search(score, voice, theme, manner)
    check_part(score, first, stop)
    return search.many_below(notes_ahead(score, voice, stop)) - search.many_below(notes_ahead(score, voice, first))


def theme_of(score, voice, note, many):
    """The theme of so many notes from a note on, as one that begins with the tone (0, 0) and the length 1."""
    check_voice(score, voice)
    if note < 0 or note + many > note_count(score, voice):
        raise NoNote("not as many notes")
    rows = notes_from(score, voice, note, many)
    _, home, (n, d) = rows[0]
    return tuple([(between(home, tone), fraction(length[0] * d, length[1] * n)) for _, tone, length in rows])


def kind_count(score, voice, many, upside):
    """How many kinds of rows of so many notes there are."""
    check_voice(score, voice)
    return len(figures_of(score, voice, upside).kinds(many))


def commonest(score, voice, many, upside):
    """The pair of the first note and the number of the kind that comes most often, or None."""
    check_voice(score, voice)
    return figures_of(score, voice, upside).commonest(many)


def longest_twice(score, voice, upside):
    """The tuple (many, first, second) of the longest rows of which a kind comes twice, or None."""
    check_voice(score, voice)
    return figures_of(score, voice, upside).longest_twice()

"""Notes of the voices of a score."""

from counterheld.errors import ScoreError
from counterheld.fractions import difference
from counterheld.kinds import is_whole
from counterheld.moments import check_column
from counterheld.notefolds import Notes, ToneCounts, with_first


class NoVoice(ScoreError):
    """The score has no such voice."""


class NoNote(ScoreError):
    """The voice has no such note."""


def check_voice(score, voice):
    """Raises NoVoice unless the score has a voice with this number, whatever it is."""
    if not is_whole(voice, 0, score.voices - 1):
        raise NoVoice("no such voice")


def _notes(score):
    fold = score.plan.kept("notes")
    return score.plan.keep("notes", Notes(score.plan)) if fold is None else fold


def notes_ahead(score, voice, stop):
    """How many notes of the voice begin in the columns ahead of stop."""
    if stop == 0:
        return 0
    _, first, _, many, _ = _notes(score).of(score.plan.last(), 0, stop, voice)
    # Ahead of the first column all voices are silent.
    return many if first is None else many + 1


def note_count(score, voice):
    check_voice(score, voice)
    return notes_ahead(score, voice, score.count)


def note(score, voice, number):
    """The tuple (column, tone, length) of a note."""
    check_voice(score, voice)
    if not 0 <= number < notes_ahead(score, voice, score.count):
        raise NoNote("no such note")
    notes = _notes(score)
    plan = score.plan
    start = 0
    if number >= notes_ahead(score, voice, 1):
        start = notes.marked_at(voice, None, number - notes_ahead(score, voice, 1))
    tone = notes.of(plan.last(), start, start + 1, voice)[2]
    stop = _end(score, voice, start, tone)
    length = difference(plan.moment_ahead(plan.last(), stop), plan.moment_ahead(plan.last(), start))
    return (start, tone, length)


def notes_from(score, voice, first, many):
    """So many notes from the number first on, which there are."""
    return [note(score, voice, number) for number in range(first, first + many)]


def _end(score, voice, start, tone):
    """The first column behind start in which the note with this tone no longer sounds, or the end of the score."""
    stop = start + 1
    if stop == score.count:
        return stop
    _, first, _, _, lead = _notes(score).of(score.plan.last(), stop, score.count, voice)
    return stop + lead if first == (tone, False) else stop


def note_at(score, voice, column):
    """The number of the note that sounds in a column, or None."""
    check_voice(score, voice)
    check_column(score, column)
    if _notes(score).of(score.plan.last(), column, column + 1, voice)[2] is None:
        return None
    return notes_ahead(score, voice, column + 1) - 1


def notes_by_tone(score, voice):
    """The dict from the f of tones to the number of notes of such a tone, ascending."""
    check_voice(score, voice)
    first, _, counts = ToneCounts(score.plan).of_score(voice)
    told = with_first({f: counts[f] for f in counts}, None, first, 1)
    return {f: told[f] for f in sorted(told)}

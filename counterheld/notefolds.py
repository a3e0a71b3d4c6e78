"""What is worked out of the notes of a voice, part by part."""

from counterheld.folds import Fold
from counterheld.marks import Marks
from counterheld.tones import added, between


def begins(tone, entry):
    """Whether a note begins with the entry, behind a column in which its voice has the tone, or None."""
    return entry is not None and (entry[1] or entry[0] != tone)


def changed_tone(tone, rule):
    """What a rule makes of a tone, which may be None."""
    if tone is None:
        return None
    if rule[0] == "raise":
        return added(tone, rule[2])
    if rule[0] == "turn":
        return between(tone, rule[2])
    return tone


def changed_entry(entry, rule):
    return None if entry is None else (changed_tone(entry[0], rule), entry[1])


def voice_below(rule, voice):
    """The number that a voice of what the rule makes has in what it is made of."""
    return rule[2][voice] if rule[0] == "voices" else voice


class Notes(Marks):
    """The notes of a voice; the way is the voice, and a column is marked if a note begins in it.

    Told is (how many columns there are, the first one's entry, the last one's tone or None, how many notes begin
    behind the first one, how many columns from the first one on have the first one's entry).
    """

    def of_columns(self, columns, way):
        told = None
        for _, _, entries in columns:
            entry = entries[way]
            tone = None if entry is None else entry[0]
            column = (1, entry, tone, 0, 1)
            told = column if told is None else self.joined(told, column)
        return told

    def joined(self, one, other):
        size, first, tone, many, lead = one
        if lead == size and other[1] == first:
            lead += other[4]
        return (size + other[0], first, other[2], many + int(begins(tone, other[1])) + other[3], lead)

    def many_times(self, one, many):
        size, first, tone, inner, lead = one
        again = int(begins(tone, first))
        if lead == size:
            lead = size * many
        return (size * many, first, tone, inner * many + again * (many - 1), lead)

    def way_below(self, rule, way):
        return voice_below(rule, way)

    def changed(self, one, rule, way):
        size, first, tone, many, lead = one
        return (size, changed_entry(first, rule), changed_tone(tone, rule), many, lead)

    def passed(self, whole, state):
        return state, whole[3]

    def met(self, one, other, state):
        return state, begins(one[2], other[1])


class ToneCounts(Fold):
    """How many notes of a voice have tones of each f; the way is the voice.

    Told is (the first column's entry, the last one's tone or None, a dict from f to how many notes of it begin behind
    the first column).
    """

    def of_columns(self, columns, way):
        counts = {}
        tone = None
        for number, (_, _, entries) in enumerate(columns):
            entry = entries[way]
            if number > 0 and begins(tone, entry):
                counts[entry[0][0]] = counts.get(entry[0][0], 0) + 1
            tone = None if entry is None else entry[0]
        return (columns[0][2][way], tone, counts)

    def joined(self, one, other):
        counts = {f: one[2][f] for f in one[2]}
        for f, many in other[2].items():
            counts[f] = counts.get(f, 0) + many
        return (one[0], other[1], with_first(counts, one[1], other[0], 1))

    def many_times(self, one, many):
        counts = {f: one[2][f] * many for f in one[2]}
        return (one[0], one[1], with_first(counts, one[1], one[0], many - 1))

    def way_below(self, rule, way):
        return voice_below(rule, way)

    def changed(self, one, rule, way):
        if rule[0] not in ("raise", "turn"):
            return one
        counts = {changed_tone((f, 0), rule)[0]: one[2][f] for f in one[2]}
        return (changed_entry(one[0], rule), changed_tone(one[1], rule), counts)


def with_first(counts, tone, entry, many):
    """Puts a note with an entry behind a tone to the counts, so many times, if it begins there; returns the counts."""
    if many > 0 and begins(tone, entry):
        f = entry[0][0]
        counts[f] = counts.get(f, 0) + many
    return counts

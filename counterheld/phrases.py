"""Notes of a voice behind one another, part by part of a score, so that rows of notes can be found in it.

A piece is (tone, length, begun): a note, or a silence, whose tone is None. Begun is False for a silence, and for a
first note of which only the columns ahead tell whether it begins there or goes on.
"""

from counterheld.folds import Fold
from counterheld.fractions import product, sum_of
from counterheld.notefolds import begins, changed_tone, voice_below
from counterheld.plans import pace_of
from counterheld.tones import between

# The most notes of a row that can be found.
MOST_NOTES = 40


class Stretch:
    """The pieces of some columns: the first ones, the last ones, and those where rows of notes lie that no part has.

    It is made of parts, earlier stretches: of none, if its columns are written out; of one that a rule changes; or of
    two behind one another. Its own row has the pieces around the place between them, or all pieces if it has no parts;
    a row of notes of its own ends behind the place, and begins ahead of it. Stretches are numbered from 0.
    """

    def __init__(self, number, parts, rule):
        self.number = number
        self.parts = parts
        self.change = rule
        # How many notes surely begin in the columns.
        self.notes = 0
        self.head = []
        self.tail = []
        self.whole = True
        # The number of the piece of its own row behind the place, and how many notes begin only because of the place.
        self.edge = None
        self.opened = 0
        self.row = []
        # How many notes of the columns surely begin ahead of each piece of the row.
        self.ranks = []
        # The interval from each piece of the row to the next one, None where one of them is silent.
        self.gaps = []

    def is_joined(self):
        return len(self.parts) == 2

    def set_row(self, row, edge, ahead):
        """Sets the row of its own, ahead of which so many notes surely begin."""
        self.row = row
        self.edge = edge
        for tone, _, begun in row:
            self.ranks.append(ahead)
            ahead += int(begun)
        for one, other in zip(row[:-1], row[1:]):
            self.gaps.append(None if one[0] is None or other[0] is None else between(one[0], other[0]))

    def own_starts(self, many):
        """The places in the row at which rows of so many notes of its own may begin."""
        low, high = 0, len(self.row) - many + 1
        if self.edge is not None:
            low, high = max(0, self.edge - many + 1), min(high, self.edge + self.opened)
        return [at for at in range(low, high) if self.row[at][2]]

    def ahead_of_right(self):
        """How many notes begin in two parts ahead of those that surely begin in the second one."""
        return self.parts[0].notes + self.opened


class Phrases(Fold):
    """Stretches of the voices of a score; the way is the voice."""

    def __init__(self, plan):
        Fold.__init__(self, plan)
        self.stretches = []
        # What has been sought in the stretches, and found of kinds of rows.
        self.searches = {}
        self.figures = {}

    def top_of(self, voice):
        """The stretch of all columns of a voice, ahead of which it is silent."""
        key = ("top", voice)
        if key not in self.parts:
            silence = self._of_pieces([(None, (0, 1), False)])
            self.parts[key] = self.joined(silence, self.of_score(voice))
        return self.parts[key]

    def _new(self, parts, rule):
        stretch = Stretch(len(self.stretches), parts, rule)
        self.stretches.append(stretch)
        return stretch

    def _of_pieces(self, pieces):
        told = self._new((), None)
        told.set_row(pieces, None, 0)
        told.notes = len([piece for piece in pieces if piece[2]])
        told.head, told.tail = pieces[:MOST_NOTES], pieces[-MOST_NOTES:]
        told.whole = len(pieces) <= MOST_NOTES
        return told

    def of_columns(self, columns, way):
        pieces = []
        for duration, _, entries in columns:
            tone, begun = (None, False) if entries[way] is None else entries[way]
            pieces = with_piece(pieces, (tone, duration, begun))
        return self._of_pieces(pieces)

    def of_copies(self, number, first, stop, way, many):
        return self.by_halves(number, first, stop, way, many)

    def joined(self, one, other):
        told = self._new((one, other), None)
        around = one.tail[1 - MOST_NOTES:]
        edge = len(around)
        first = other.head[0]
        around = with_piece(around, first)
        merged = len(around) == edge
        told.opened = int(not merged and around[-1][2] and not first[2])
        told.notes = one.notes + told.opened + other.notes
        told.set_row(around + other.head[1:], edge, one.notes - _begun(one.tail[1 - MOST_NOTES:]))
        near = with_piece(one.tail, first) + other.head[1:]
        told.whole = one.whole and other.whole and len(near) <= MOST_NOTES
        told.head = near[:MOST_NOTES] if one.whole else one.head
        told.tail = near[-MOST_NOTES:] if other.whole else other.tail
        return told

    def way_below(self, rule, way):
        return voice_below(rule, way)

    def changed(self, one, rule, way):
        if rule[0] not in ("raise", "turn", "pace"):
            return one
        told = self._new((one,), rule)
        told.notes = one.notes
        told.whole = one.whole
        told.head = [_changed_piece(piece, rule) for piece in one.head]
        told.tail = [_changed_piece(piece, rule) for piece in one.tail]
        return told


def with_piece(pieces, piece):
    """The pieces with one more behind them, which goes on with the last one or begins."""
    if not pieces:
        return [piece]
    tone, length, begun = pieces[-1]
    if begins(tone, _entry(piece)):
        return pieces + [(piece[0], piece[1], True)]
    if piece[0] != tone:
        return pieces + [piece]
    return pieces[:-1] + [(tone, sum_of(length, piece[1]), begun)]


def _entry(piece):
    return None if piece[0] is None else (piece[0], piece[2])


def _begun(pieces):
    return len([piece for piece in pieces if piece[2]])


def _changed_piece(piece, rule):
    tone, length, begun = piece
    return (changed_tone(tone, rule), product(length, pace_of(rule)), begun)


def phrases_of(score):
    """The stretches of the voices of a score."""
    fold = score.plan.kept("phrases")
    return score.plan.keep("phrases", Phrases(score.plan)) if fold is None else fold

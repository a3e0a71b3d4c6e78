"""Breaking pieces into lines."""

from counterheld.errors import ScoreError
from counterheld.fractions import product, sum_of
from counterheld.kinds import is_number, is_row
from counterheld.linerows import MOST_PIECES, LineRows, is_measure, is_piece
from counterheld.moments import NoColumn, check_column, check_part, columns
from counterheld.scores import TooLong
from counterheld.steps import silence
from counterheld.tables import behind

# The most columns that pieces of a score have together.
MOST_COLUMNS = 400


class BadPieces(ScoreError):
    """What are no pieces: the number of the first wrong one, or None for too few or too many."""

    def __init__(self, number):
        ScoreError.__init__(self, "no pieces")
        self.number = number


class BadRoom(ScoreError):
    """What is no room."""


def line_rows(pieces, room):
    """The lines of pieces in a room; whatever both are, what is none is told by BadPieces, then by BadRoom."""
    check_pieces(pieces)
    if not is_measure(room) or room[0] == 0:
        raise BadRoom("no room")
    return LineRows(pieces, room)


def check_pieces(pieces):
    if not is_row(pieces) or not 1 <= len(pieces) <= MOST_PIECES:
        raise BadPieces(None)
    for number, piece in enumerate(pieces):
        if not is_piece(piece):
            raise BadPieces(number)


def badness(pieces, first, stop, room):
    """The badness of the line of the pieces from first up to stop, or None if it does not fit."""
    return line_rows(pieces, room).badness_of(first, stop)


def best_lines(pieces, room):
    """The pair (sum of badness, ends) of the best breaking, or None."""
    rows = line_rows(pieces, room).all_lines()
    # For each place the least (sum, number of lines) from there on, and the first end of such lines.
    told = [None] * len(rows) + [(0, 0, None)]
    for first in range(len(rows) - 1, -1, -1):
        ranked = [(bad + told[stop][0], 1 + told[stop][1], stop) for stop, bad in rows[first] if told[stop] is not None]
        told[first] = min(ranked, default=None)
    if told[0] is None:
        return None
    ends = [told[0][2]]
    while ends[-1] < len(rows):
        ends.append(told[ends[-1]][2])
    return (told[0][0], tuple(ends))


def _counts(rows):
    """How many breakings there are from each place on."""
    told = [0] * len(rows) + [1]
    for first in range(len(rows) - 1, -1, -1):
        told[first] = sum([told[stop] for stop, _ in rows[first]])
    return told


def breaking_count(pieces, room):
    """How many breakings there are."""
    return _counts(line_rows(pieces, room).all_lines())[0]


def breaking_at(pieces, room, index):
    """The ends of the breaking with an index, or None."""
    rows = line_rows(pieces, room).all_lines()
    counts = _counts(rows)
    if not 0 <= index < counts[0]:
        return None
    ends = [0]
    while ends[-1] < len(rows):
        for stop, _ in rows[ends[-1]]:
            if index < counts[stop]:
                break
            index -= counts[stop]
        ends.append(stop)
    return tuple(ends[1:])


def breaking_index(pieces, room, ends):
    """The index of the breaking with these ends, or None for what is none."""
    rows = line_rows(pieces, room).all_lines()
    counts = _counts(rows)
    if not is_row(ends):
        return None
    told, first = 0, 0
    for end in ends:
        if first == len(rows) or not is_number(end) or end not in [stop for stop, _ in rows[first]]:
            return None
        told += sum([counts[stop] for stop, _ in rows[first] if stop < end])
        first = end
    return told if first == len(rows) else None


def line_potentials(pieces, room):
    """For each number of pieces the least sum of badness of lines that have them, or None."""
    rows = line_rows(pieces, room).all_lines()
    told = [0] + [None] * len(rows)
    for first, row in enumerate(rows):
        if told[first] is not None:
            for stop, bad in row:
                if told[stop] is None or told[first] + bad < told[stop]:
                    told[stop] = told[first] + bad
    return tuple(told)


def shows_lines(pieces, room, told, total):
    """Whether told are potentials that show that no breaking has a sum below total, or that there is none."""
    rows = line_rows(pieces, room).all_lines()
    if not isinstance(told, tuple) or len(told) != len(rows) + 1:
        return False
    if not all([low is None or is_number(low) for low in told]) or told[0] != 0:
        return False
    for first, row in enumerate(rows):
        if told[first] is not None:
            for stop, bad in row:
                if told[stop] is None or told[stop] > told[first] + bad:
                    return False
    if total is None:
        return told[-1] is None
    return is_number(total) and (told[-1] is None or told[-1] >= total)


def ends_of(score, book, states, first, stop):
    """The places of a part of a score at which pieces may end, by the states of a book; the last one is stop."""
    check_part(score, first, stop)
    if stop - first > MOST_COLUMNS:
        raise TooLong("too many columns for pieces")
    state, _ = behind(score, book, first)
    before = silence(score.voices) if first == 0 else columns(score, first - 1, first)[0]
    told = []
    for end, column in enumerate(columns(score, first, stop), start=first + 1):
        state, _ = book.steps.step(before, column)[state]
        before = column
        if end == stop or state in states:
            told.append(end)
    return tuple(told)


def _parts(score, first, ends):
    """The columns of each piece with these ends; raises NoColumn, then TooLong."""
    check_column(score, first)
    begin = first
    for end in ends:
        if not begin < end <= score.count:
            raise NoColumn(end)
        begin = end
    if begin - first > MOST_COLUMNS:
        raise TooLong("too many columns for pieces")
    row = columns(score, first, begin)
    begins = [first] + list(ends[:-1])
    return [row[one - first:other - first] for one, other in zip(begins, ends)]


def pieces_of(score, first, ends, base):
    """A piece for each end."""
    told = []
    for part in _parts(score, first, ends):
        length = (0, 1)
        for duration, _, _ in part:
            length = sum_of(length, duration)
        wide = product(base, (len(part), 1))
        told.append((sum_of(wide, length), length, product(wide, (1, 2))))
    check_pieces(told)
    return tuple(told)


def turns_of(score, first, ends):
    """For each piece how many voices have a note that goes on into its first column."""
    told = []
    parts = _parts(score, first, ends)
    before = silence(score.voices) if first == 0 else columns(score, first - 1, first)[0]
    for part in parts:
        going = 0
        for one, other in zip(before[2], part[0][2]):
            going += int(one is not None and other is not None and not other[1] and one[0] == other[0])
        told.append(going)
        before = part[-1]
    return tuple(told)

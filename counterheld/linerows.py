"""Lines of pieces: which ones fit in a room, and how badly."""

from math import lcm

from counterheld.kinds import is_fraction, is_row, is_whole

MOST_PIECES = 400
MOST_NUMERATOR = 10 ** 6
MOST_DENOMINATOR = 1000
# The badness of a line that stretches or shrinks by just as much as it has to give.
FULL = 1000


def is_measure(thing):
    """Whether it is a fraction from 0 on as widths, stretches and shrinks may be, whatever it is."""
    return is_fraction(thing) and is_whole(thing[0], 0, MOST_NUMERATOR) and thing[1] <= MOST_DENOMINATOR


def is_piece(thing):
    if not is_row(thing) or len(thing) != 3 or not all([is_measure(part) for part in thing]):
        return False
    width, _, shrink = thing
    return shrink[0] * width[1] <= width[0] * shrink[1]


class LineRows:
    """Right pieces in a right room, all measured in one small part; the sums of all pieces ahead of each place."""

    def __init__(self, pieces, room):
        parts = room[1]
        for piece in pieces:
            parts = lcm(parts, piece[0][1], piece[1][1], piece[2][1])
        self.room = room[0] * parts // room[1]
        self.size = len(pieces)
        self.widths = _sums([width[0] * parts // width[1] for width, _, _ in pieces])
        self.stretches = _sums([stretch[0] * parts // stretch[1] for _, stretch, _ in pieces])
        self.shrinks = _sums([shrink[0] * parts // shrink[1] for _, _, shrink in pieces])

    def badness_of(self, first, stop):
        """The badness of a line, or None if it does not fit."""
        more = self.widths[stop] - self.widths[first] - self.room
        if more == 0 or (more < 0 and stop == self.size):
            return 0
        give = self.stretches[stop] - self.stretches[first]
        if more > 0:
            give = self.shrinks[stop] - self.shrinks[first]
        if give == 0 or more > give:
            return None
        return FULL * more * more // (give * give)

    def lines_from(self, first):
        """The pairs (stop, badness) of the lines that fit from a place on, ascending."""
        told = []
        for stop in range(first + 1, self.size + 1):
            badness = self.badness_of(first, stop)
            if badness is not None:
                told.append((stop, badness))
            elif self._is_full(first, stop):
                break
        return told

    def _is_full(self, first, stop):
        """Whether neither this line nor any longer one from the place on fits."""
        # No piece shrinks by more than its width.
        width = self.widths[stop] - self.widths[first]
        return width - (self.shrinks[stop] - self.shrinks[first]) > self.room

    def all_lines(self):
        """For each place the lines that fit from it on."""
        return [self.lines_from(first) for first in range(self.size)]


def _sums(numbers):
    """The sums of the first numbers, from none of them to all."""
    told = [0]
    for number in numbers:
        told.append(told[-1] + number)
    return told

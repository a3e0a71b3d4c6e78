"""Breaking pieces into lines, and lines into pages."""

from counterheld.breaking import line_rows
from counterheld.errors import ScoreError
from counterheld.kinds import is_number, is_row, is_whole

MOST_ON_PAGE = 12
MOST_COST = 10 ** 9
# What a page and a line more are worth beside a cost, there being fewer than so many lines: what costs as much is
# better with fewer pages, then with fewer lines.
MANY = 1024
START = (0, 0)


class BadTurns(ScoreError):
    """What are no turns, or no least and most numbers of lines of a page."""


class Pages:
    """Right pieces in a room with right turns; a place (i, k) has i pieces in lines, k of them on the page at hand."""

    def __init__(self, pieces, room, turns, least, most):
        self.rows = line_rows(pieces, room).all_lines()
        self.size = len(self.rows)
        _check_turns(self.size, turns, least, most)
        self.turns = turns
        self.least = least
        self.most = most

    def turn(self, i, k):
        """What it costs to turn the page at a place, or None where it may not be turned."""
        return self.turns[i] if k >= self.least and i < self.size else None

    def steps_from(self, place):
        """The pairs of the places that follow a place, and what it costs to come there."""
        i, k = place
        told = []
        if k < self.most and i < self.size:
            told = [((stop, k + 1), bad) for stop, bad in self.rows[i]]
        turn = self.turn(i, k)
        if turn is not None:
            told.append(((i, 0), turn))
        return told

    def worths(self):
        """For each i and k the least worth of what may follow the place, or None: its cost, pages and lines in one."""
        told = [[None] * (self.most + 1) for _ in range(self.size)]
        told.append([None] + [0] * self.most)
        for i in range(self.size - 1, -1, -1):
            row = [(stop, bad * MANY * MANY + 1) for stop, bad in self.rows[i]]
            for k in range(self.most):
                sums = [worth + told[stop][k + 1] for stop, worth in row if told[stop][k + 1] is not None]
                told[i][k] = min(sums, default=None)
            # Where the page is turned no line has been put on the next one, so this is known by now.
            for k in range(self.least, self.most + 1):
                turned = self.turned(told, i, k)
                if turned is not None and (told[i][k] is None or turned < told[i][k]):
                    told[i][k] = turned
        return told

    def turned(self, worths, i, k):
        """The worth of what may follow the place if the page is turned there, or None."""
        turn = self.turn(i, k)
        return None if turn is None or worths[i][0] is None else turn * MANY * MANY + MANY + worths[i][0]

    def first_pages(self, worths):
        """The pages that come first of those of the least worth."""
        pages, lines, i = [], [], 0
        while i < self.size:
            k = len(lines)
            worth = worths[i][k]
            if k > 0 and self.turned(worths, i, k) == worth:
                pages.append(tuple(lines))
                lines = []
                continue
            row = [(stop, bad * MANY * MANY + 1) for stop, bad in self.rows[i]]
            row = [(stop, more) for stop, more in row if worths[stop][k + 1] is not None]
            i = min([stop for stop, more in row if more + worths[stop][k + 1] == worth])
            lines.append(i)
        return tuple(pages + [tuple(lines)])


def _check_turns(many, turns, least, most):
    """Raises BadTurns for what are no turns of so many pieces, or no least and most numbers, whatever they are."""
    if not is_row(turns) or len(turns) != many:
        raise BadTurns("no row of turns")
    if not all([turn is None or is_whole(turn, 0, MOST_COST) for turn in turns]):
        raise BadTurns("no turn")
    if not is_whole(most, 1, MOST_ON_PAGE) or not is_whole(least, 1, most):
        raise BadTurns("no numbers of lines")


def best_pages(pieces, room, turns, least, most):
    """The pair (cost, pages) of the best breaking into pages, or None."""
    pages = Pages(pieces, room, turns, least, most)
    worths = pages.worths()
    if worths[0][0] is None:
        return None
    return (worths[0][0] // (MANY * MANY), pages.first_pages(worths))


def page_potentials(pieces, room, turns, least, most):
    """The places to which lines and turns lead, with least costs."""
    pages = Pages(pieces, room, turns, least, most)
    told = {START: 0}
    for i in range(pages.size):
        # From a page that is turned one comes to its first line, never to a page that is filled.
        for k in list(range(1, most + 1)) + [0]:
            if (i, k) in told:
                for place, cost in pages.steps_from((i, k)):
                    told[place] = min(told[(i, k)] + cost, told.get(place, told[(i, k)] + cost))
    return tuple([(place, told[place]) for place in sorted(told)])


def shows_pages(pieces, room, turns, least, most, told, total):
    """Whether told are potentials that show that nothing costs less than total, or that there is no breaking."""
    pages = Pages(pieces, room, turns, least, most)
    lows = _lows(pages, told)
    if lows is None or lows.get(START) != 0 or not (total is None or is_number(total)):
        return False
    for place, low in lows.items():
        for other, cost in pages.steps_from(place):
            if other not in lows or lows[other] > low + cost:
                return False
        if place[0] == pages.size and (total is None or low < total):
            return False
    return True


def _lows(pages, told):
    """The dict from places to numbers that a tuple of pairs tells, or None if it is no such one, whatever it is."""
    if not isinstance(told, tuple):
        return None
    lows = {}
    for pair in told:
        if not isinstance(pair, tuple) or len(pair) != 2:
            return None
        place, low = pair
        if not isinstance(place, tuple) or len(place) != 2 or not is_number(low) or low < 0:
            return None
        if not is_whole(place[0], 0, pages.size) or not is_whole(place[1], 0, pages.most) or place in lows:
            return None
        lows[place] = low
    return lows

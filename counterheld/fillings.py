"""How a book goes from a score over bars of a box into another score."""

from counterheld.goings import end_of, goings_of, with_bars
from counterheld.kinds import is_number, is_whole
from counterheld.tables import behind, tables_of
from counterheld.views import plain_view


class Bridging:
    """A score ahead, bars of a box, a score behind, and a book that goes from the one into the other.

    A place is a pair (bar, state): the number of the last bar, or None behind the score ahead, and the state behind it.
    """

    def __init__(self, ahead, bars, after, book):
        self.goings = goings_of(book, bars)
        self.bars = bars
        self.states = len(book.states)
        _, self.ahead_column, _ = tables_of(ahead, book).of_score(plain_view(ahead.voices))
        self.start = (None, behind(ahead, book, ahead.count)[0])
        self.after_column, _, self.after_table = tables_of(after, book).of_score(plain_view(after.voices))

    def key(self, number):
        """What is the same for just those scores, boxes and numbers of bars between which a book goes alike."""
        return (self.start, self.ahead_column, self.bars, number, self.after_column, self.after_table)

    def places_behind(self, place):
        """For each bar of the box the place behind a place, or None."""
        if place[0] is None:
            return with_bars(self.goings.states_from(self.ahead_column, place[1]))
        return self.goings.behind(place)

    def end(self, place):
        """The state behind the score that follows the place, or None if one of its columns is broken."""
        last = self.ahead_column if place[0] is None else self.bars[place[0]][-1]
        return end_of(self.goings.steps.step(last, self.after_column), self.after_table, place[1])

    def fits(self, place):
        return self.end(place) is not None

    def is_place(self, thing, number):
        """Whether it is a place, of tuples, behind so many bars; whatever it is."""
        if not isinstance(thing, tuple) or len(thing) != 2:
            return False
        bar, state = thing
        if number == 0:
            return bar is None and is_whole(state, self.start[1], self.start[1])
        return is_whole(bar, 0, len(self.bars) - 1) and is_whole(state, 0, self.states - 1)


def is_shown(bridging, number, told, costs, least):
    """Whether it is shown that no filling of so many bars costs less than least; whatever told is."""
    if not isinstance(told, tuple) or len(told) != number + 1:
        return False
    lows = _lows(bridging, 0, told[0])
    if lows is None or [lows[place] for place in lows] != [0]:
        return False
    for done in range(1, number + 1):
        following = _lows(bridging, done, told[done])
        if following is None or not _leads_on(bridging, lows, following, costs):
            return False
        lows = following
    for place, low in lows.items():
        if low < least and bridging.fits(place):
            return False
    return True


def _lows(bridging, number, level):
    """The dict from places behind so many bars to numbers that a tuple of pairs tells; None if it is no such one."""
    if not isinstance(level, tuple):
        return None
    told = {}
    for pair in level:
        if not isinstance(pair, tuple) or len(pair) != 2:
            return None
        place, low = pair
        if not bridging.is_place(place, number) or not is_number(low) or low < 0 or place in told:
            return None
        told[place] = low
    return told


def _leads_on(bridging, lows, following, costs):
    """Whether all places behind some places are among the following ones, with numbers that are not too great."""
    for place, low in lows.items():
        for bar, other in enumerate(bridging.places_behind(place)):
            if other is not None and (other not in following or following[other] > low + costs[bar]):
                return False
    return True

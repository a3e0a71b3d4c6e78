"""Writing papers that a bridge brings one score to another one."""

from counterheld.bridges import opposite_bridge, put_behind
from counterheld.joints import Joint
from counterheld.likeplaces import Places
from counterheld.threads import Threads
from counterheld.views import plain_view


class LikeWriter:
    """Writes the rows of a paper about the joint rules of two scores.

    Both scores are woven. Each place that is linked has a row that says that a bridge brings it to the home of its
    knot; homes have none. A run has a row that says that a bridge brings all its parts but the last one to all but the
    first one.
    """

    def __init__(self, one, other):
        self.joint = Joint(one, other)
        # What is woven for other questions too might be knotted otherwise, and the paper be another one.
        self.threads = Threads()
        self.places = Places(self.joint, self.threads.weave)
        self.rows = []
        self.numbers = {}
        self.linked = {}

    def paper(self, bridge):
        """The paper for a bridge, or None if it does not bring the one score to the other."""
        one, other = self.joint.pair
        view = plain_view(other.voices)
        item = self.threads.of_score(one, bridge[:2])
        item_again = self.threads.of_score(other, view)
        if self.threads.weave.shifted(item, bridge[2] + bridge[3]) != item_again:
            return None
        last, last_again = self.joint.last_rules()
        place = (last, 0) + item + (bridge[:2], None, 1)
        place_again = (last_again, 0) + item_again + (view, None, 1)
        self._link(place)
        self._link(place_again)
        self._settled(self._between(place, place_again), bridge)
        return tuple(self.rows)

    def _link(self, place):
        """Links a place, and all places that are to be linked before."""
        ways = {}
        waiting = [place]
        while waiting:
            place = waiting[-1]
            if place in self.linked:
                waiting.pop()
                continue
            if place not in ways:
                ways[place] = self.places.linking(place)
            word, wanted = ways[place]
            lacking = [other for other in wanted if other not in self.linked]
            if lacking:
                waiting.extend(lacking)
            else:
                self.linked[place] = self._written(place, word, wanted)

    def _written(self, place, word, wanted):
        """The number of the row about a place, all wanted places being linked; None for a home."""
        if word == "home":
            return None
        bridge = self.places.bridge_of(place)
        if word == "bar":
            return self._put_bar(place, bridge)
        if word == "below":
            return self._settled(self._within(place, wanted[0]), bridge)
        if word == "copy":
            return self._settled(self._in_first_copy(place, wanted[0]), bridge)
        if word == "parts":
            half = len(wanted) // 2
            return self._all_between(wanted[:half], wanted[half:], bridge)
        if word == "round":
            begun = self._settled(self._between(wanted[2], wanted[3]), bridge)
            home = self.places.homes[place[2]]
            reason = ("round", self.linked[wanted[0]], self.linked[wanted[1]], begun)
            return self._put(place, home, self.places.length_of(place), bridge, reason)
        if word == "period":
            return self._by_period(place, wanted[0], bridge)
        return self._along(wanted, bridge)

    def _put(self, place, other, many, bridge, reason):
        """Puts a row about so many columns from two places on, if there is none that says so; tells its number."""
        row = place[:2] + other[:2] + (many, bridge)
        if row not in self.numbers:
            self.numbers[row] = len(self.rows)
            self.rows.append(row + (reason,))
        return self.numbers[row]

    def _put_bar(self, place, bridge):
        many = self.places.length_of(place)
        if place[5] is None:
            return self._put(place, self.places.homes[place[2]], many, bridge, ("bar",))
        return self._put(place, (place[0], place[1] + many), (place[6] - 1) * many, bridge, ("bar",))

    def _same(self, place, ahead, many):
        """A row that says that so many columns of a rule are those so far ahead of them, or behind."""
        return self._put(place, (place[0], place[1] + ahead), many, self.joint.plain, ("same",))

    def _made(self, place, below, many):
        return self._put(place, below, many, self.joint.bridge_down(place[0]), ("made",))

    def _back(self, number):
        rule, first, other, second, many, bridge, _ = self.rows[number]
        return self._put((other, second), (rule, first), many, opposite_bridge(bridge), ("back", number))

    def _through(self, one, other):
        """The row that follows from two rows; one of them may be None, and stands for what is as it is."""
        if one is None or other is None:
            return one if other is None else other
        bridge = put_behind(self.rows[one][5], self.rows[other][5])
        return self._put(self.rows[one], self.rows[other][2:4], self.rows[one][4], bridge, ("through", one, other))

    def _join(self, one, other):
        if one is None:
            return other
        row = self.rows[one]
        return self._put(row, row[2:4], row[4] + self.rows[other][4], row[5], ("join", one, other))

    def _settled(self, number, bridge):
        """A row that says the same by the bridge, which differs from the row's at most where no voice sounds."""
        row = self.rows[number]
        return number if row[5] == bridge else self._put(row, row[2:4], row[4], bridge, ("mute", number))

    def _between(self, place, other):
        """A row from a place to another one of the same knot."""
        one, back = self.linked[place], self.linked[other]
        return self._through(one, None if back is None else self._back(back))

    def _all_between(self, places, others, bridge):
        """A row from places that follow one another to others."""
        told = None
        for place, other in zip(places, others):
            told = self._join(told, self._settled(self._between(place, other), bridge))
        return told

    def _within(self, place, below):
        """A row about a place that lies within what a rule below makes."""
        size = self.places.length_of(place)
        if place[5] is None:
            return self._through(self._made(place, below, size), self.linked[below])
        many = (place[6] - 1) * size
        there = self._through(self._made(place, below, many), self.linked[below])
        behind = (place[0], place[1] + size)
        return self._through(there, self._back(self._made(behind, (below[0], below[1] + size), many)))

    def _in_first_copy(self, place, first):
        """A row about a place that begins in a later copy than the place first, where the same stands."""
        size = self.places.length_of(place)
        ahead = first[1] - place[1]
        if place[5] is None:
            return self._through(self._same(place, ahead, size), self.linked[first])
        many = (place[6] - 1) * size
        there = self._through(self._same(place, ahead, many), self.linked[first])
        return self._through(there, self._same((first[0], first[1] + size), -ahead, many))

    def _by_period(self, run, begun, bridge):
        """A row about a run in copies, of which the run begun fills one."""
        size, period = self.places.length_of(run), self.joint.copy_size(run[0])
        behind = (run[0], run[1] + size)
        number = self.linked[begun]
        if self.rows[number][4] > period:
            number = self._put(run, behind, period, bridge, ("part", number))
        many = (run[6] - 1) * size
        copies = self._same(run, period, many - period), self._same(behind, period, many - period)
        return self._put(run, behind, many, bridge, ("round", copies[0], copies[1], number))

    def _along(self, wanted, bridge):
        """A row about a run by rows about what it has: shorter runs, and parts alone."""
        told = None
        for number, place in enumerate(wanted):
            if place[5] is not None:
                told = self._join(told, self.linked[place])
            elif number > 0 and wanted[number - 1][5] is None:
                told = self._join(told, self._settled(self._between(wanted[number - 1], place), bridge))
        return told

"""Places of knots in the columns of joint rules, and how each is linked to others.

A place is (rule, at, knot, shift, view, step, many): the columns of the rule from at on, seen in the view, are the knot
with the shift. If the step is not None, so many such knots follow one another, each shifted by the step from the one
ahead; such a place is a run.
"""

from counterheld.bridges import opposite_bridge, put_behind
from counterheld.shifts import back, often
from counterheld.threads import shift_of
from counterheld.views import view_below

# Of a run with at most so many parts each part is spoken of alone.
FEW = 4


class Places:
    """How places are linked.

    Of each knot one place is the home; all others are linked to it. A place lies within what a rule below makes, and is
    linked by the place there; or the ends of such are in it, and it is linked part by part.
    """

    def __init__(self, joint, weave):
        self.joint = joint
        self.weave = weave
        self.homes = {}

    def length_of(self, place):
        """How many columns the knot of a place has."""
        return self.weave.lengths[place[2]]

    def linking(self, place):
        """The pair of a word for how the place is linked, and of the places that are to be linked before."""
        rule, at, knot, shift, view, step, many = place
        word = self.joint.rule(rule)[0]
        below = self.joint.below(rule, at, self.length_of(place) * many)
        if below is not None:
            item = self.weave.shifted((knot, shift), back(shift_of(self.joint.rule(rule), view)))
            view = view_below(self.joint.rule(rule), view)
            return "below", [below + item + (view, step, many)]
        if word == "times" and at >= self.joint.copy_size(rule):
            return "copy", [(rule, at % self.joint.copy_size(rule)) + place[2:]]
        if step is not None:
            return ("bar", []) if word == "bar" else self._way_of_run(place)
        if knot not in self.homes:
            self.homes[knot] = place
            return "home", []
        home = self.homes[knot]
        if word == "bar" and self.joint.rule(home[0])[0] == "bar":
            return "bar", []
        if self.weave.steps[knot] is not None and self.weave.counts_of_parts[knot] > FEW:
            runs = [self.run(place), self.run(home)]
            return "round", runs + [self.nth(run, 0) for run in runs]
        return "parts", self.part_places(place) + self.part_places(home)

    def _way_of_run(self, run):
        """The way of a run in which there are ends of what a rule is made of."""
        rule, at, _, _, _, _, many = run
        size = self.length_of(run)
        if self.joint.rule(rule)[0] == "times":
            # Whole copies come again, so it is enough to speak of as many parts as fill one.
            few = -(-self.joint.copy_size(rule) // size) + 1
            if few < many and self.joint.copy_size(rule) < (many - 1) * size:
                return "period", [run[:6] + (few,)]
        if many <= FEW:
            return "steps", [self.nth(run, number) for number in range(many)]
        # The parts ahead of the first end, those around it, and the rest of them.
        _, begin, stop, _ = self.joint.pieces(rule, at, size * many)[0]
        ahead, rest = divmod(stop - begin, size)
        behind = min(ahead + min(rest, 1), many - 1)
        told = [self.nth(run, number) for number in range(max(ahead - 1, 0), behind + 1)]
        if ahead > 1:
            told = [run[:6] + (ahead,)] + told
        if many - behind > 1:
            told = told + [self.nth(run, behind)[:5] + (run[5], many - behind)]
        return "split", told

    def run(self, place):
        """The run of the parts of a place whose knot is a run."""
        rule, at, knot, shift, view, _, _ = place
        part, shift = self.weave.part_of((knot, shift), 0)
        return (rule, at, part, shift, view, self.weave.steps[knot], self.weave.counts_of_parts[knot])

    def nth(self, run, number):
        """The place of the part with the number of a run."""
        rule, at, knot, shift, view, step, _ = run
        knot, shift = self.weave.shifted((knot, shift), often(step, number))
        return (rule, at + number * self.length_of(run), knot, shift, view, None, 1)

    def part_places(self, place):
        """The places of all parts of a place."""
        rule, at, knot, shift, view, _, _ = place
        told = []
        for number in range(self.weave.counts_of_parts[knot]):
            part = self.weave.part_of((knot, shift), number)
            told.append((rule, at) + part + (view, None, 1))
            at += self.weave.lengths[part[0]]
        return told

    def bridge(self, place, other):
        """The bridge from a place to another one of the same knot."""
        return put_behind(bridge_home(place), opposite_bridge(bridge_home(other)))

    def bridge_of(self, place):
        """The bridge from a place to the home of its knot; of a run, from each part to the next one."""
        return self.bridge(place, self.homes[place[2]] if place[5] is None else self.nth(place, 1))


def bridge_home(place):
    """The bridge that brings the columns of a place to what is the same at all places of its knot."""
    f, o, n, d = place[3]
    return place[4] + ((-f, -o), (d, n))

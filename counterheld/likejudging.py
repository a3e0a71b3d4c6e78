"""Judging papers that a bridge brings one score to another one, row by row."""

from counterheld.bridges import brought, opposite_bridge, put_behind
from counterheld.joints import Joint
from counterheld.kinds import is_fraction, is_number, is_whole
from counterheld.views import is_view

# For each word how many things a reason has.
REASONS = {"bar": 1, "same": 1, "made": 1, "mute": 2, "part": 2, "join": 3, "back": 2, "through": 3, "round": 4}


class LikeJudge:
    """Judges papers about the joint rules of two scores with as many voices."""

    def __init__(self, one, other):
        self.joint = Joint(one, other)
        self.voices = one.voices

    def is_right(self, paper, bridge):
        """Whether it is a paper that shows that a bridge, which is one, brings the one to the other; whatever it is."""
        if not isinstance(paper, tuple) or len(paper) == 0:
            return False
        for number, row in enumerate(paper):
            if not self._is_row(row) or not self._is_founded(paper, number):
                return False
        one, other = self.joint.last_rules()
        many = self.joint.columns_of(one)
        return many == self.joint.columns_of(other) and paper[-1][:6] == (one, 0, other, 0, many, bridge)

    def _is_row(self, row):
        if not isinstance(row, tuple) or len(row) != 7:
            return False
        rule, first, other, second, many, bridge, reason = row
        for number, begin in ((rule, first), (other, second)):
            if not is_whole(number, 0, self.joint.many_rules - 1):
                return False
            size = self.joint.columns_of(number)
            if not is_whole(many, 1, size) or not is_whole(begin, 0, size - many):
                return False
        return is_tuple_bridge(bridge, self.voices) and isinstance(reason, tuple) and len(reason) > 0

    def _is_founded(self, paper, number):
        """Whether the reason of a row, which is one by its form, says rightly so; the earlier rows are right."""
        row = paper[number]
        reason = row[6]
        if not isinstance(reason[0], str) or reason[0] not in REASONS or len(reason) != REASONS[reason[0]]:
            return False
        if not all([is_whole(earlier, 0, number - 1) for earlier in reason[1:]]):
            return False
        told = [paper[earlier] for earlier in reason[1:]]
        if reason[0] == "bar":
            return self._is_bar(row)
        if reason[0] == "same":
            return self._is_same(row)
        if reason[0] == "made":
            return self._is_made(row)
        if reason[0] == "mute":
            return self._is_mute(row, told[0])
        if reason[0] == "part":
            return is_part(row, told[0])
        if reason[0] == "join":
            return is_join(row, told[0], told[1])
        if reason[0] == "back":
            return is_back(row, told[0])
        if reason[0] == "through":
            return is_through(row, told[0], told[1])
        return is_round(row, told[0], told[1], told[2])

    def _is_bar(self, row):
        rule, first, other, second, many, bridge, _ = row
        if self.joint.rule(rule)[0] != "bar" or self.joint.rule(other)[0] != "bar":
            return False
        return brought(self.joint.columns(rule, first, many), bridge) == self.joint.columns(other, second, many)

    def _is_same(self, row):
        rule, first, other, second, _, bridge, _ = row
        if rule != other or bridge != self.joint.plain:
            return False
        if first == second:
            return True
        return self.joint.rule(rule)[0] == "times" and (first - second) % self.joint.copy_size(rule) == 0

    def _is_made(self, row):
        rule, first, other, second, many, bridge, _ = row
        return self.joint.below(rule, first, many) == (other, second) and bridge == self.joint.bridge_down(rule)

    def _is_mute(self, row, one):
        if row[:5] != one[:5] or row[5][:2] != one[5][:2] or row[5][3] != one[5][3]:
            return False
        return self.joint.is_silent(row[0], row[1], row[4])


def is_tuple_bridge(thing, voices):
    """Whether it is a bridge of so many voices, all of tuples, whatever it is."""
    if not isinstance(thing, tuple) or len(thing) != 4 or not is_view(thing[:2], voices):
        return False
    interval, by = thing[2], thing[3]
    if not isinstance(interval, tuple) or len(interval) != 2 or not all([is_number(number) for number in interval]):
        return False
    return isinstance(by, tuple) and is_fraction(by) and by[0] > 0


def is_alike_by(row, one):
    """Whether both are about the same rules by the same bridge."""
    return row[0] == one[0] and row[2] == one[2] and row[5] == one[5]


def is_part(row, one):
    ahead = row[1] - one[1]
    return is_alike_by(row, one) and ahead >= 0 and row[3] - one[3] == ahead and ahead + row[4] <= one[4]


def is_join(row, one, other):
    if not is_alike_by(row, one) or not is_alike_by(row, other):
        return False
    if row[1] != one[1] or row[3] != one[3]:
        return False
    return (other[1], other[3]) == (one[1] + one[4], one[3] + one[4]) and row[4] == one[4] + other[4]


def is_back(row, one):
    return row[:5] == one[2:4] + one[:2] + one[4:5] and row[5] == opposite_bridge(one[5])


def is_through(row, one, other):
    if row[:2] != one[:2] or one[2:4] != other[:2] or row[2:4] != other[2:4]:
        return False
    return row[4] == one[4] == other[4] and row[5] == put_behind(one[5], other[5])


def is_round(row, one, other, begun):
    rule, first, place, second, many, bridge, _ = row
    size = begun[4]
    if begun[:4] != row[:4] or begun[5] != bridge or size >= many:
        return False
    if one[:5] != (rule, first, rule, first + size, many - size):
        return False
    if other[:5] != (place, second, place, second + size, many - size):
        return False
    return put_behind(one[5], bridge) == put_behind(bridge, other[5])

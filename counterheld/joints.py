"""The joint rules of two scores: those of the one, and behind them those of the other."""

from counterheld.bridges import opposite_bridge, plain_bridge
from counterheld.plans import pace_of
from counterheld.reaches import reach_of
from counterheld.views import view_below

UNISON = (0, 0)
SAME = (1, 1)


class Joint:
    """The joint rules of two scores with as many voices."""

    def __init__(self, one, other):
        self.pair = (one, other)
        self.first_many = len(one.rules)
        self.many_rules = len(one.rules) + len(other.rules)
        self.plain = plain_bridge(one.voices)

    def last_rules(self):
        """The numbers of the last rules of both scores."""
        return self.first_many - 1, self.many_rules - 1

    def _home(self, number):
        """The score whose rule it is, and how many rules are ahead of its own ones."""
        return (self.pair[0], 0) if number < self.first_many else (self.pair[1], self.first_many)

    def rule(self, number):
        """The rule, in which the numbers of its own score stand."""
        home, ahead = self._home(number)
        return home.rules[number - ahead]

    def columns_of(self, number):
        """How many columns the rule makes."""
        home, ahead = self._home(number)
        return home.plan.sizes[number - ahead]

    def copy_size(self, number):
        """How many columns each copy has that a rule times makes."""
        home, ahead = self._home(number)
        return home.plan.sizes[self.rule(number)[1]]

    def columns(self, number, first, many):
        """Columns of a rule that is a bar."""
        return self.rule(number)[1][first:first + many]

    def pieces(self, number, first, many):
        """The parts (rule, first, stop, how often) that make a part of the columns of a rule that is no bar."""
        home, ahead = self._home(number)
        told = home.plan.pieces(number - ahead, first, first + many)
        return [(i + ahead, begin, end, often) for i, begin, end, often in told]

    def below(self, number, first, many):
        """The pair of the rule from which a rule takes some columns as it stands, and where from, or None."""
        if self.rule(number)[0] == "bar":
            return None
        pieces = self.pieces(number, first, many)
        return pieces[0][:2] if len(pieces) == 1 and pieces[0][3] == 1 else None

    def bridge(self, number):
        """The bridge of a rule: it brings the columns of which the rule is made to those that it makes."""
        rule = self.rule(number)
        sign, order = view_below(rule, self.plain[:2])
        interval = rule[2] if rule[0] in ("raise", "turn") else UNISON
        return (sign, order, interval, pace_of(rule))

    def bridge_down(self, number):
        """The opposite of the bridge of a rule."""
        return opposite_bridge(self.bridge(number))

    def is_silent(self, number, first, many):
        """Whether no voice sounds in some columns of a rule."""
        home, ahead = self._home(number)
        return reach_of(home).of(number - ahead, first, first + many) is None

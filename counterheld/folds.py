"""What is worked out of a part of a score from the parts of the rules that make it."""


class Fold:
    """Something worked out of columns, part by part; a class below tells what.

    A part of a rule is worked out once, however often it comes: so a score is asked in as many steps
    as its rules have unlike parts, not in as many as it has columns. What is asked may depend on a way,
    such as the number of a voice, which rules change on the way down.
    """

    def __init__(self, plan):
        self.plan = plan
        self.parts = {}

    def of(self, number, first, stop, way=None):
        """What is worked out of the columns from first up to stop of the rule with the number."""
        key = (number, first, stop, way)
        if key not in self.parts:
            self.parts[key] = self.worked_out(number, first, stop, way)
        return self.parts[key]

    def of_rule(self, number, way=None):
        return self.of(number, 0, self.plan.sizes[number], way)

    def of_score(self, way=None):
        return self.of_rule(self.plan.last(), way)

    def worked_out(self, number, first, stop, way):
        rule = self.plan.rules[number]
        if rule[0] == "bar":
            return self.of_columns(rule[1][first:stop], way)
        below = self.way_below(rule, way)
        told = []
        for i, begin, end, many in self.plan.pieces(number, first, stop):
            told.append(self.of_copies(i, begin, end, below, many))
        # No part has more than three pieces.
        whole = told[0]
        for piece in told[1:]:
            whole = self.joined(whole, piece)
        return self.changed(whole, rule, way)

    def of_copies(self, number, first, stop, way, many):
        """What is worked out of a part many times over, many being at least 1."""
        return self.many_times(self.of(number, first, stop, way), many)

    def by_halves(self, number, first, stop, way, many):
        """The same, from fewer copies and fewer; a class below may have it so instead of many_times."""
        if many == 1:
            return self.of(number, first, stop, way)
        key = (number, first, stop, way, many)
        if key not in self.parts:
            half = half_of(many)
            one = self.by_halves(number, first, stop, way, half)
            self.parts[key] = self.joined(one, self.by_halves(number, first, stop, way, many - half))
        return self.parts[key]

    def way_below(self, rule, way):
        """The way in which that is asked of which the rule is made, when the rule is asked in a way."""
        return way

    def of_columns(self, columns, way):
        """What is worked out of one or more columns that are written out."""
        raise NotImplementedError("a class below tells it")

    def joined(self, one, other):
        """What belongs to columns and others behind them."""
        raise NotImplementedError("a class below tells it")

    def many_times(self, one, many):
        """What belongs to the same columns many times over."""
        raise NotImplementedError("a class below tells it")

    def changed(self, one, rule, way):
        """What belongs to columns when the rule has changed them; for then, times and cut it is one itself.

        The way is the one in which the rule is asked.
        """
        raise NotImplementedError("a class below tells it")


def half_of(many):
    """The greatest power of two below many, which is at least 2: so that halves are alike as often as may be."""
    return 1 << ((many - 1).bit_length() - 1)

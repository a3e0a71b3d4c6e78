"""What is worked out of a part of a score from the parts of the rules that make it."""


class Fold:
    """Something worked out of columns, part by part; a class below tells what.

    A part of a rule is worked out once, however often it comes: so a score is asked in as many steps
    as its rules have unlike parts, not in as many as it has columns.
    """

    def __init__(self, plan):
        self.plan = plan
        self.kept = {}

    def of(self, number, first, stop):
        """What is worked out of the columns from first up to stop of the rule with the number."""
        key = (number, first, stop)
        if key not in self.kept:
            self.kept[key] = self.worked_out(number, first, stop)
        return self.kept[key]

    def of_rule(self, number):
        return self.of(number, 0, self.plan.sizes[number])

    def worked_out(self, number, first, stop):
        rule = self.plan.rules[number]
        if rule[0] == "bar":
            return self.of_columns(rule[1][first:stop])
        told = []
        for i, begin, end, many in self.plan.pieces(number, first, stop):
            told.append(self.many_times(self.of(i, begin, end), many))
        # No part has more than three pieces.
        whole = told[0]
        for piece in told[1:]:
            whole = self.joined(whole, piece)
        return self.changed(whole, rule)

    def of_columns(self, columns):
        """What is worked out of one or more columns that are written out."""
        raise NotImplementedError("a class below tells it")

    def joined(self, one, other):
        """What belongs to columns and others behind them."""
        raise NotImplementedError("a class below tells it")

    def many_times(self, one, many):
        """What belongs to the same columns many times over, many being at least 1."""
        raise NotImplementedError("a class below tells it")

    def changed(self, one, rule):
        """What belongs to columns when the rule has changed them; for then, times and cut it is one itself."""
        raise NotImplementedError("a class below tells it")

"""Threads: the columns of a score, or of one of its voices, woven so that they can be compared with others."""

from counterheld.notefolds import voice_below
from counterheld.plans import pace_of
from counterheld.weaving import Weave

# The most knots with which a weave is still used.
MOST_KNOTS = 60000


class Threads:
    """The rows of the rules of some scores, woven together.

    A way is (sign, who): 1 or -1, for columns that are turned about the tone (0, 0); and the order in which all voices
    are seen, or the number of the one that is seen alone. Where it is seen alone, accents are not seen.
    """

    def __init__(self):
        self.weave = Weave()
        self.rows = {}

    def of(self, plan, number, way):
        """The item of the columns of the rule with the number."""
        key = (plan, number, way)
        if key not in self.rows:
            self.rows[key] = self._woven(plan, number, way)
        return self.rows[key]

    def of_score(self, score, way):
        return self.of(score.plan, score.plan.last(), way)

    def _woven(self, plan, number, way):
        rule = plan.rules[number]
        if rule[0] == "bar":
            return self.weave.finished(self.weave.bunched([self._leaf(column, way) for column in rule[1]]), 0)
        one = self.of(plan, rule[1], way_below(rule, way))
        if rule[0] == "then":
            return self.weave.joined(one, self.of(plan, rule[2], way))
        if rule[0] == "times":
            return self.weave.many_times(one, rule[2])
        if rule[0] == "cut":
            return self.weave.cut(one, rule[2], rule[3])
        return self.weave.shifted(one, shift_of(rule, way))

    def _leaf(self, column, way):
        """The item of one column."""
        duration, accent, entries = column
        sign, who = way
        alone = not isinstance(who, tuple)
        seen = [entries[voice] for voice in ((who,) if alone else who)]
        tones = [entry[0] for entry in seen if entry is not None]
        f, o = tones[0] if tones else (0, 0)
        told = []
        for entry in seen:
            told.append(None if entry is None else (sign * (entry[0][0] - f), sign * (entry[0][1] - o), entry[1]))
        content = (alone, 0 if alone else accent, tuple(told))
        return (self.weave.leaf(content, not tones), (sign * f, sign * o, duration[0], duration[1]))


def way_below(rule, way):
    """The way in which that is seen of which the rule is made, when the rule is seen in a way."""
    sign, who = way
    if rule[0] == "turn":
        return (-sign, who)
    if rule[0] == "voices" and isinstance(who, tuple):
        return (sign, tuple([voice_below(rule, voice) for voice in who]))
    return (sign, voice_below(rule, who)) if rule[0] == "voices" else way


def shift_of(rule, way):
    """The shift of what a rule makes, seen in a way, from what it is made of."""
    f, o = 0, 0
    if rule[0] in ("raise", "turn"):
        # Seen upside down, what is raised is lowered; a turn is one of the way, and raises by the rest.
        f, o = way[0] * rule[2][0], way[0] * rule[2][1]
    n, d = pace_of(rule)
    return (f, o, n, d)


def threads_of(scores):
    """The threads with which one score, or two, are compared."""
    told = None
    for score in scores:
        kept = score.plan.threads
        if told is None and kept is not None and len(kept.weave.levels) <= MOST_KNOTS:
            told = kept
    if told is None:
        told = Threads()
    for score in scores:
        score.plan.threads = told
    return told

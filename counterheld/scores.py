"""Scores, told by rules."""

from counterheld.errors import ScoreError
from counterheld.kinds import is_row, is_tone
from counterheld.plans import Plan
from counterheld.reaches import Reach
from counterheld.rulechecks import checked_rule

MOST_RULES = 60


class BadScore(ScoreError):
    """Rules that tell no score: the number of the first wrong one, or None, and the reason."""

    def __init__(self, number, reason):
        ScoreError.__init__(self, "no score: " + reason)
        self.number = number
        self.reason = reason


class TooLong(ScoreError):
    """Something that would be too long to be told."""


class Score:
    """A score by its rules."""

    def __init__(self, rules):
        self.plan = _plan_of(rules)
        self.rules = tuple(self.plan.rules)
        self.voices = self.plan.voices
        self.count = self.plan.sizes[-1]
        self.duration = self.plan.durations[-1]

    def counts(self):
        """The tuple of how many columns each rule makes."""
        return tuple(self.plan.sizes)


def _plan_of(rules):
    """The plan of the rules; raises BadScore for the first wrong one."""
    if not is_row(rules) or not 1 <= len(rules) <= MOST_RULES:
        raise BadScore(None, "count")
    plan = Plan()
    reach = Reach(plan)
    for number, rule in enumerate(rules):
        told, reason = checked_rule(plan, rule)
        if reason is not None:
            raise BadScore(number, reason)
        plan.put(told)
        if not is_near(reach.of_rule(number)):
            raise BadScore(number, "large")
    return plan


def is_near(reach):
    """Whether all tones are such as may stand in scores."""
    return reach is None or (is_tone(reach[0]) and is_tone(reach[1]))

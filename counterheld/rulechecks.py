"""Whether a rule is right behind others, and why not."""

from counterheld.columns import BadColumn, check_bar, tuple_of
from counterheld.kinds import is_row, is_short_fraction, is_tone, is_whole

# The most columns that a rule makes, and the most times that one comes.
MOST_COLUMNS = 10 ** 12
# For each word how many things a rule has, and how many of those behind the word are earlier rules.
FORMS = {
    "bar": (2, 0),
    "then": (3, 2),
    "times": (3, 1),
    "raise": (3, 1),
    "turn": (3, 1),
    "pace": (3, 1),
    "voices": (3, 1),
    "cut": (4, 1),
}


def checked_rule(plan, rule):
    """The pair of the rule as tuples and None, or of None and the reason why it is not right behind the plan.

    Whether its tones lie too far is not asked here.
    """
    if not has_form(rule):
        return None, "word"
    for i in rule[1:1 + FORMS[rule[0]][1]]:
        if not is_whole(i, 0, plan.last()):
            return None, "rule"
    check = CHECKS[rule[0]]
    told, reason = check(plan, rule)
    if reason is None and plan.size_of(told) > MOST_COLUMNS:
        return None, "large"
    return told, reason


def has_form(rule):
    """Whether it is a row of a word of rules and as many things as this asks for, whatever they are."""
    if not is_row(rule) or not rule or not isinstance(rule[0], str) or rule[0] not in FORMS:
        return False
    return len(rule) == FORMS[rule[0]][0]


def _check_bar(plan, rule):
    try:
        bar = check_bar(rule[1])
    except BadColumn:
        return None, "bar"
    if plan.voices is not None and len(bar[0][2]) != plan.voices:
        return None, "voices"
    return ("bar", bar), None


def _check_then(plan, rule):
    return tuple(rule), None


def _check_times(plan, rule):
    if not is_whole(rule[2], 1, MOST_COLUMNS):
        return None, "times"
    return tuple(rule), None


def _check_interval(plan, rule):
    if not is_tone(rule[2]):
        return None, "interval"
    return (rule[0], rule[1], tuple_of(rule[2])), None


def _check_pace(plan, rule):
    if not is_short_fraction(rule[2]):
        return None, "pace"
    return (rule[0], rule[1], tuple_of(rule[2])), None


def _check_voices(plan, rule):
    order = rule[2]
    if not is_row(order) or len(order) != plan.voices:
        return None, "voices"
    for v in range(plan.voices):
        if not any([is_whole(voice, v, v) for voice in order]):
            return None, "voices"
    return (rule[0], rule[1], tuple(order)), None


def _check_cut(plan, rule):
    _, i, first, stop = rule
    if not is_whole(stop, 1, plan.sizes[i]) or not is_whole(first, 0, stop - 1):
        return None, "cut"
    return tuple(rule), None


CHECKS = {
    "bar": _check_bar,
    "then": _check_then,
    "times": _check_times,
    "raise": _check_interval,
    "turn": _check_interval,
    "pace": _check_pace,
    "voices": _check_voices,
    "cut": _check_cut,
}

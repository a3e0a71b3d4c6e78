"""Texts of scores, written and read."""

from counterheld.bartexts import BadText, bar_text, read_bar
from counterheld.columns import BadColumn
from counterheld.errors import ScoreError
from counterheld.names import BadName, interval_name, read_interval
from counterheld.numerals import fraction_in, fraction_text, number_in
from counterheld.scores import Score

MOST_FIGURES = 30
# A bar's text stands behind its word and a space.
BAR_AT = 4


class BadScoreText(ScoreError):
    """A text that is no score's: the line of the first wrong rule, and the position in it."""

    def __init__(self, line, position):
        ScoreError.__init__(self, "the text is no score's")
        self.line = line
        self.position = position


def score_text(score):
    return "\n".join([_rule_text(rule) for rule in score.rules])


def _rule_text(rule):
    word = rule[0]
    if word == "bar":
        return "bar " + bar_text(rule[1])
    if word == "raise":
        told = interval_name(rule[2])
    elif word == "pace":
        told = fraction_text(rule[2])
    elif word in ("turn", "voices"):
        told = ",".join([str(number) for number in rule[2]])
    else:
        told = " ".join([str(number) for number in rule[2:]])
    return f"{word} {rule[1]} {told}"


def read_score(text):
    rules = []
    for line, rule in enumerate(text.split("\n")):
        if rule.split(" ")[0] == "bar":
            rules.append(("bar", _bar_in(rule, line)))
        else:
            rules.append(_rule_in(rule, line))
    return Score(rules)


def _bar_in(text, line):
    """The bar of a line whose word is bar."""
    try:
        return read_bar(text[BAR_AT:])
    except BadText as wrong:
        raise BadScoreText(line, min(wrong.position + BAR_AT, len(text))) from None
    except BadColumn:
        raise BadScoreText(line, BAR_AT) from None


def _rule_in(text, line):
    """The rule of a line whose word is another one."""
    word, *parts = text.split(" ")
    if word not in READERS:
        raise BadScoreText(line, 0)
    readers = READERS[word]
    rule = [word]
    position = len(word) + 1
    for read, part in zip(readers, parts):
        thing = read(part)
        if thing is None:
            raise BadScoreText(line, position)
        rule.append(thing)
        position += len(part) + 1
    if len(parts) < len(readers):
        raise BadScoreText(line, len(text))
    if len(parts) > len(readers):
        raise BadScoreText(line, position)
    return rule


def _number_in(text):
    return number_in(text, MOST_FIGURES)


def _numbers_in(text):
    """The numbers of a text with commas between, or None."""
    numbers = [_number_in(part) for part in text.split(",")]
    return None if None in numbers else numbers


def _sum_in(text):
    numbers = _numbers_in(text)
    return None if numbers is None or len(numbers) != 2 else numbers


def _interval_in(text):
    try:
        return read_interval(text)
    except BadName:
        return None


def _fraction_in(text):
    return fraction_in(text, MOST_FIGURES)


READERS = {
    "then": (_number_in, _number_in),
    "times": (_number_in, _number_in),
    "raise": (_number_in, _interval_in),
    "turn": (_number_in, _sum_in),
    "pace": (_number_in, _fraction_in),
    "voices": (_number_in, _numbers_in),
    "cut": (_number_in, _number_in, _number_in),
}

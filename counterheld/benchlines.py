"""Lines that name one another: which lead to which, and in what order they stand.

The lines are a dict from names to rules in which names of lines stand in the place of numbers.
"""

from heapq import heapify, heappop, heappush

from counterheld.columns import BadColumn, check_bar
from counterheld.plans import Plan
from counterheld.reaches import Reach
from counterheld.rulechecks import FORMS, checked_rule, has_form
from counterheld.scores import is_near

# The most lines to which a line leads.
MOST_LED = 60


def named(rule):
    """The names, whatever they are, that stand in a rule."""
    return rule[1:1 + FORMS[rule[0]][1]]


def formed(rule):
    """The pair of a rule as a tuple, and None or why it has not the form of one: "word" or "bar"."""
    if not has_form(rule):
        return None, "word"
    if rule[0] != "bar":
        return tuple(rule), None
    try:
        return ("bar", check_bar(rule[1])), None
    except BadColumn:
        return None, "bar"


def with_names(rule, names):
    """The rule with other names in the place of its own, which the dict has."""
    many = 1 + FORMS[rule[0]][1]
    return rule[:1] + tuple([names[name] for name in rule[1:many]]) + rule[many:]


def led(lines, names):
    """The dict of the lines to which some lines lead, they themselves among them."""
    told = {name: True for name in names}
    waiting = list(names)
    while waiting:
        rule = lines[waiting.pop()]
        for name in named(rule):
            if name not in told:
                told[name] = True
                waiting.append(name)
    return told


def leading(lines, names):
    """The dict of the lines that lead to some lines, they themselves among them."""
    naming = {name: [] for name in lines}
    for name, rule in lines.items():
        for other in named(rule):
            naming[other].append(name)
    told = {}
    waiting = [name for name in names if name in lines]
    while waiting:
        name = waiting.pop()
        if name not in told:
            told[name] = True
            waiting.extend(naming[name])
    return told


def ordered(lines, names):
    """Some lines in their order: each behind those that it names, and the first such order by names."""
    lacking = {name: 0 for name in names}
    naming = {name: [] for name in names}
    for name in names:
        for other in named(lines[name]):
            if other in names:
                lacking[name] += 1
                naming[other].append(name)
    ready = [name for name in names if lacking[name] == 0]
    heapify(ready)
    told = []
    while ready:
        name = heappop(ready)
        told.append(name)
        for other in naming[name]:
            lacking[other] -= 1
            if lacking[other] == 0:
                heappush(ready, other)
    return told


def rules_of(lines, name):
    """The rules of the lines to which a line leads, in their order, with numbers."""
    names = ordered(lines, led(lines, [name]))
    numbers = {other: number for number, other in enumerate(names)}
    return [with_names(lines[other], numbers) for other in names]


class Held:
    """The lines to which some lines lead, as rules behind one another, to see which of them are right."""

    def __init__(self, lines):
        self.named_rules = lines
        self.plan = Plan()
        self.reach = Reach(self.plan)
        self.numbers = {}
        self.voices = {}

    def put(self, name):
        """Puts a line behind those that it names: the pair of its rule and None, or of None and why it is not right."""
        rule = self.named_rules[name]
        voices = [self.voices[other] for other in named(rule)]
        if len(voices) == 2 and voices[0] != voices[1]:
            return None, "voices"
        # Lines that do not hang together may have unlike numbers of voices.
        self.plan.voices = voices[0] if voices else None
        told, reason = checked_rule(self.plan, with_names(rule, self.numbers))
        if reason is not None:
            return None, reason
        self.plan.put(told)
        if not is_near(self.reach.of_rule(self.plan.last())):
            return None, "large"
        self.numbers[name] = self.plan.last()
        self.voices[name] = self.plan.voices
        return rule[:1] + named(rule) + told[1 + len(voices):], None


def first_wrong(lines, name):
    """The triple of the first line, of those that lead to a line, that is not right, or None; why; and the line's rule.

    All other lines are right.
    """
    names = leading(lines, [name])
    held = Held(lines)
    others = {other: True for other in led(lines, list(names)) if other not in names}
    for other in ordered(lines, others):
        held.put(other)
    right = None
    for other in ordered(lines, names):
        told, reason = held.put(other)
        if reason is None and len(led(lines, [other])) > MOST_LED:
            reason = "many"
        if reason is not None:
            return other, reason, None
        if other == name:
            right = told
    return None, None, right

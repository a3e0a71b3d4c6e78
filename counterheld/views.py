"""Views of columns: turned about the tone (0, 0) or not, with the voices in an order."""

from counterheld.columns import exchanged, paced, raised, turned
from counterheld.fractions import product
from counterheld.kinds import is_whole


def plain_view(voices):
    """The view in which columns are as they are."""
    return (1, tuple(range(voices)))


def seen(columns, view):
    """The columns as they are seen in the view."""
    sign, order = view
    told = exchanged(columns, order)
    return turned(told, (0, 0)) if sign < 0 else told


def seen_column(plan, number, at, view):
    """The column with the number at that a rule makes, as it is seen in the view."""
    f, o, by = 0, 0, (1, 1)
    while plan.rules[number][0] != "bar":
        rule = plan.rules[number]
        if rule[0] in ("raise", "turn"):
            # Seen upside down, what is raised is lowered; a turn is one of the view, and raises by the rest.
            f, o = f + view[0] * rule[2][0], o + view[0] * rule[2][1]
        if rule[0] == "pace":
            by = product(by, rule[2])
        view = view_below(rule, view)
        number, at = plan.place_below(number, at)
    column = plan.rules[number][1][at]
    return paced(raised(seen([column], view), (f, o)), by)[0]


def view_below(rule, view):
    """The view in which that is seen of which the rule is made, when the rule is seen in a view."""
    sign, order = view
    if rule[0] == "turn":
        return (-sign, order)
    if rule[0] == "voices":
        return (sign, tuple([rule[2][v] for v in order]))
    return view


def is_view(thing, voices):
    """Whether it is a view of so many voices, all of tuples, whatever it is."""
    if not isinstance(thing, tuple) or len(thing) != 2:
        return False
    sign, order = thing
    if not is_whole(sign, -1, 1) or sign == 0 or not isinstance(order, tuple) or len(order) != voices:
        return False
    for v in order:
        if not is_whole(v, 0, voices - 1):
            return False
    return len(set(order)) == voices

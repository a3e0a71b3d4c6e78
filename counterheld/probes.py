"""The tests of books: what is one, and of which moves it holds."""

from counterheld.columns import MOST_ACCENT, MOST_VOICES, tuple_of
from counterheld.fractions import is_less
from counterheld.kinds import is_fraction, is_row, is_tone, is_whole
from counterheld.tones import between, height

# Heights lie from -MOST_HEIGHT to MOST_HEIGHT, durations are at most MOST_TIMES as long as others.
MOST_HEIGHT = 200
MOST_TIMES = 1000
# How many intervals or numbers a test has at most.
MOST_LISTED = 12
# For each word what stands behind it.
FORMS = {
    "accent": ("accent",),
    "begins": ("voice",),
    "silent": ("voice",),
    "loose": ("voice",),
    "leap": ("voice", "height", "height"),
    "by": ("voice", "intervals"),
    "apart": ("voice", "voice", "height", "height"),
    "class": ("voice", "voice", "numbers"),
    "lasts": ("times", "times"),
    "along": ("voice", "voice"),
}


def is_test(thing):
    """Whether it is a test of a book, whatever it is."""
    if not is_row(thing) or not thing or not isinstance(thing[0], str) or thing[0] not in FORMS:
        return False
    form = FORMS[thing[0]]
    if len(thing) != 1 + len(form):
        return False
    for kind, part in zip(form, thing[1:]):
        check = PARTS[kind]
        if not check(part):
            return False
    return form[:2] != ("voice", "voice") or thing[1] != thing[2]


def _is_accent(thing):
    return is_whole(thing, 0, MOST_ACCENT)


def _is_voice(thing):
    return is_whole(thing, 0, MOST_VOICES - 1)


def _is_height(thing):
    return is_whole(thing, -MOST_HEIGHT, MOST_HEIGHT)


def _is_times(thing):
    return is_fraction(thing) and thing[0] >= 0 and not is_less((MOST_TIMES, 1), thing)


def _are_intervals(thing):
    return is_row(thing) and len(thing) <= MOST_LISTED and all([is_tone(interval) for interval in thing])


def _are_numbers(thing):
    return is_row(thing) and len(thing) <= MOST_LISTED and all([is_whole(number, 0, 11) for number in thing])


PARTS = {
    "accent": _is_accent,
    "voice": _is_voice,
    "height": _is_height,
    "times": _is_times,
    "intervals": _are_intervals,
    "numbers": _are_numbers,
}


def tuples_of_test(test):
    """A right test as tuples."""
    word = test[0]
    if word == "by":
        return (word, test[1], tuple([tuple_of(interval) for interval in test[2]]))
    if word == "class":
        return (word, test[1], test[2], tuple(test[3]))
    if word == "lasts":
        return (word, tuple_of(test[1]), tuple_of(test[2]))
    return tuple(test)


def turned_test(test):
    """The test that holds of a move if the test holds of the turned move."""
    word = test[0]
    if word in ("leap", "apart"):
        return test[:-2] + (-test[-1], -test[-2])
    if word == "by":
        return (word, test[1], tuple([(-f, -o) for f, o in test[2]]))
    if word == "class":
        return test[:3] + (tuple([(12 - number) % 12 for number in test[3]]),)
    return test


def exchanged_test(test, order):
    """The test with order[v] in the place of each voice v."""
    told = [test[0]]
    for kind, part in zip(FORMS[test[0]], test[1:]):
        told.append(order[part] if kind == "voice" else part)
    return tuple(told)


def is_held(test, one, other):
    """Whether a right test holds of the move from the column one to the column other; all are tuples."""
    voices = len(other[2])
    for kind, part in zip(FORMS[test[0]], test[1:]):
        # A voice that the columns do not have.
        if kind == "voice" and part >= voices:
            return False
    check = CHECKS[test[0]]
    return check(test, one, other)


def _accent(test, one, other):
    return other[1] == test[1]


def _begins(test, one, other):
    entry = other[2][test[1]]
    return entry is not None and entry[1]


def _silent(test, one, other):
    return other[2][test[1]] is None


def _loose(test, one, other):
    before, entry = one[2][test[1]], other[2][test[1]]
    if entry is None or entry[1]:
        return False
    return before is None or before[0] != entry[0]


def _step(voice, one, other):
    """The interval by which a voice comes to a tone that begins, or None."""
    before, entry = one[2][voice], other[2][voice]
    if before is None or entry is None or not entry[1]:
        return None
    return between(before[0], entry[0])


def _leap(test, one, other):
    step = _step(test[1], one, other)
    return step is not None and test[2] <= height(step) <= test[3]


def _by(test, one, other):
    return _step(test[1], one, other) in test[2]


def _width(test, column):
    """The height from the one voice of the test up to the other one, or None."""
    one, other = column[2][test[1]], column[2][test[2]]
    return None if one is None or other is None else height(between(one[0], other[0]))


def _apart(test, one, other):
    width = _width(test, other)
    return width is not None and test[3] <= width <= test[4]


def _class(test, one, other):
    width = _width(test, other)
    return width is not None and width % 12 in test[3]


def _lasts(test, one, other):
    (n, d), (m, e) = one[0], other[0]
    if n == 0:
        return False
    times = (m * d, e * n)
    return not is_less(times, test[1]) and not is_less(test[2], times)


def _along(test, one, other):
    step, step_beside = _step(test[1], one, other), _step(test[2], one, other)
    if step is None or step_beside is None:
        return False
    up, up_beside = height(step), height(step_beside)
    return (up > 0 and up_beside > 0) or (up < 0 and up_beside < 0)


CHECKS = {
    "accent": _accent,
    "begins": _begins,
    "silent": _silent,
    "loose": _loose,
    "leap": _leap,
    "by": _by,
    "apart": _apart,
    "class": _class,
    "lasts": _lasts,
    "along": _along,
}

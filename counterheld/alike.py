"""Scores beside one another: how far they are alike, where they differ, and which bridges bring one to the other."""

from itertools import permutations

from counterheld.bridges import brought, check_bridge
from counterheld.fractions import product
from counterheld.lines import check_voice
from counterheld.matching import Strand, interval_at, matched
from counterheld.moments import NoColumn, check_column, column
from counterheld.threads import threads_of
from counterheld.tones import between
from counterheld.views import plain_view

# At so many columns bridges are tried before whole scores are compared.
MOST_TRIED = 9


def alike_for(one, first, other, second, bridge):
    """How many columns from first on the bridge brings to those of the score other from second on."""
    checked = check_bridge(bridge, one.voices)
    check_column(one, first)
    check_column(other, second)
    return _alike(one, first, other, second, checked, 1)


def alike_back(one, stop, other, end, bridge):
    """How many columns ahead of stop, from the last one back, the bridge brings to those of other ahead of end."""
    checked = check_bridge(bridge, one.voices)
    for score, place in ((one, stop), (other, end)):
        if not 0 < place <= score.count:
            raise NoColumn(place)
    return _alike(one, stop, other, end, checked, -1)


def _alike(one, place, other, place_again, bridge, sign):
    """How many columns from a place on, or back from it, the bridge brings to those from another place."""
    if one.voices != other.voices:
        return 0
    strands = _strands(one, place, other, place_again, bridge, sign)
    return matched(strands[0], strands[1])


def _strands(one, place, other, place_again, bridge, sign):
    """What is left of both scores from the places on, or back, the score one being brought by the bridge."""
    threads = threads_of([one, other])
    row = threads.weave.shifted(threads.of_score(one, bridge[:2]), bridge[2] + bridge[3])
    row_again = threads.of_score(other, plain_view(other.voices))
    return Strand(threads.weave, row, place, sign), Strand(threads.weave, row_again, place_again, sign)


def alike(one, other):
    """Whether two scores have the same columns."""
    if one.voices != other.voices or one.count != other.count:
        return False
    threads = threads_of([one, other])
    view = plain_view(one.voices)
    return threads.of_score(one, view) == threads.of_score(other, view)


def first_difference(one, other):
    """The first difference of two scores, or None."""
    return difference_at(one, other, 0)


def difference_at(one, other, index):
    """The tuple (number, word, voice) of the difference with an index, or None."""
    both, most = min(one.count, other.count), max(one.count, other.count)
    number, told = (0, index) if one.voices != other.voices else _difference(one, other, index)
    # What is told lies behind the columns that have been compared: all of those differ.
    number += told
    if number >= most:
        return None
    if number >= both:
        return (number, "end", None)
    return (number,) + _what_differs(column(one, number), column(other, number))


def _difference(one, other, index):
    """How many columns are ahead of the difference with the index, or of where a score ends; and how many it is on."""
    view = plain_view(one.voices)
    strands = _strands(one, 0, other, 0, view + ((0, 0), (1, 1)), 1)
    number = matched(strands[0], strands[1])
    while index > 0 and strands[0].left and strands[1].left:
        for strand in strands:
            strand.drop(1)
        number += 1 + matched(strands[0], strands[1])
        index -= 1
    return number, index


def _what_differs(one, other):
    """The pair of the word for what differs first in two unlike columns, and of a voice or None."""
    if len(one[2]) != len(other[2]):
        return ("voices", None)
    if one[0] != other[0]:
        return ("duration", None)
    if one[1] != other[1]:
        return ("accent", None)
    return ("entry", [v for v in range(len(one[2])) if one[2][v] != other[2][v]][0])


def bridges_between(one, other):
    """The bridges that bring the score one to the score other."""
    if one.voices != other.voices or one.count != other.count:
        return ()
    threads = threads_of([one, other])
    pairs = _pairs(one, other)
    knot, shift = threads.of_score(other, plain_view(other.voices))
    told = []
    for sign in (1, -1):
        for order in permutations(range(one.voices)):
            bridge = _bridge_of(pairs, sign, order)
            if bridge is None:
                continue
            knot_again, shift_again = threads.of_score(one, (sign, order))
            if knot == knot_again:
                interval = between(shift_again[:2], shift[:2])
                told.append((sign, order, interval, bridge[3]))
    return tuple(told)


def _pairs(one, other):
    """Some columns of both scores with the same numbers."""
    last = one.count - 1
    numbers = [last * k // (MOST_TRIED - 1) for k in range(MOST_TRIED)]
    return [(column(one, number), column(other, number)) for number in numbers]


def _bridge_of(pairs, sign, order):
    """A bridge in a view that brings the first column of each pair to the second one, or None if there is none."""
    (n, d), (n_again, d_again) = pairs[0][0][0], pairs[0][1][0]
    by = product((n_again, d_again), (d, n))
    interval = None
    for one, other in pairs:
        seen = brought([one], (sign, order, (0, 0), by))[0]
        if interval is None:
            interval = _interval_between(seen, other)
        if brought([seen], (1, tuple(range(len(order))), interval or (0, 0), (1, 1)))[0] != other:
            return None
    return (sign, order, interval, by)


def _interval_between(one, other):
    """The interval from the first tone that sounds in a column up to that of the same voice in another one, or None."""
    for entry, entry_again in zip(one[2], other[2]):
        if entry is not None and entry_again is not None:
            return between(entry[0], entry_again[0])
    return None


def follows(score, leader, follower, distance):
    """The pairs (sign, interval) by which the voice follower follows the voice leader at a distance."""
    check_voice(score, leader)
    check_voice(score, follower)
    if not 1 <= distance < score.count:
        raise NoColumn(distance)
    threads = threads_of([score])
    weave = threads.weave
    following = threads.of_score(score, (1, follower))
    told = []
    for sign in (1, -1):
        leading = threads.of_score(score, (sign, leader))
        interval = interval_at(weave, leading, 0, following, distance)
        leading = weave.shifted(leading, interval + (1, 1))
        if matched(Strand(weave, leading, 0, 1), Strand(weave, following, distance, 1)) == score.count - distance:
            told.append((sign, interval))
    return tuple(told)

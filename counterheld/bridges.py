"""Bridges: what brings columns to others by a turning, an order of the voices, an interval and a pace."""

from counterheld.columns import paced, raised
from counterheld.errors import ScoreError
from counterheld.fractions import product
from counterheld.kinds import is_fraction, is_number, is_pair, is_row, is_whole
from counterheld.views import seen


class BadBridge(ScoreError):
    """What is no bridge."""


def check_bridge(bridge, voices):
    """The bridge as tuples; whatever it is, what is none of so many voices is told by BadBridge."""
    if not is_row(bridge) or len(bridge) != 4:
        raise BadBridge("no row of four")
    sign, order, interval, by = bridge
    if not is_whole(sign, -1, 1) or sign == 0:
        raise BadBridge("no sign")
    if not is_row(order) or len(order) != voices or not all([is_whole(v, 0, voices - 1) for v in order]):
        raise BadBridge("no order")
    if len(set(order)) != voices:
        raise BadBridge("no order of all voices")
    if not is_pair(interval) or not all([is_number(number) for number in interval]):
        raise BadBridge("no interval")
    if not is_fraction(by) or by[0] <= 0:
        raise BadBridge("no fraction above 0")
    return (sign, tuple(order), tuple(interval), tuple(by))


def plain_bridge(voices):
    """The bridge that brings columns to themselves."""
    return (1, tuple(range(voices)), (0, 0), (1, 1))


def put_behind(one, other):
    """The bridge that brings columns as one does, and then on as other does."""
    sign, order, (f, o), by = one
    sign_again, order_again, (more_f, more_o), by_again = other
    interval = (sign_again * f + more_f, sign_again * o + more_o)
    return (sign * sign_again, tuple([order[v] for v in order_again]), interval, product(by, by_again))


def opposite_bridge(bridge):
    """The bridge that brings back what the bridge brings."""
    sign, order, (f, o), (n, d) = bridge
    back = tuple([list(order).index(v) for v in range(len(order))])
    return (sign, back, (-sign * f, -sign * o), (d, n))


def brought(columns, bridge):
    """The columns to which the bridge brings some columns."""
    sign, order, interval, by = bridge
    return paced(raised(seen(columns, (sign, order)), interval), by)

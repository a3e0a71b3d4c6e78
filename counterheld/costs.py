"""Fillings of gaps by what their bars cost."""

from counterheld.fillings import is_shown
from counterheld.gaps import BadGap, filled_of
from counterheld.kinds import is_number, is_row, is_whole
from counterheld.ranking import Ranking, least_costs

MOST_COST = 10 ** 9


def _filled(gap, book, costs):
    """The gap with a book; raises for the costs behind all else."""
    filled = filled_of(gap, book)
    if not is_row(costs) or len(costs) != len(filled.bars):
        raise BadGap("costs")
    if not all([is_whole(cost, 0, MOST_COST) for cost in costs]):
        raise BadGap("costs")
    return filled


def cheapest(gap, book, costs):
    """The pair (cost, the first filling of the least cost), or None."""
    return filling_by_cost(gap, book, costs, 0)


def filling_by_cost(gap, book, costs, index):
    """The pair (cost, filling) with this index among all fillings by their costs, or None."""
    filled = _filled(gap, book, costs)
    ranking = filled.ranking
    if ranking is None or ranking.costs != tuple(costs) or ranking.is_long():
        ranking = Ranking(filled.rows, tuple(costs), least_costs(filled.rows, filled.ends, filled.number, costs))
        filled.ranking = ranking
    if index < 0 or ranking.least[filled.number][filled.first] is None:
        return None
    return ranking.word((filled.number, filled.first), index)


def potentials(gap, book, costs):
    """The potentials of the gap, or None if there is no filling."""
    filled = _filled(gap, book, costs)
    levels = filled.least_by_level(costs)
    if filled.is_blocked(levels):
        return None
    places = filled.graph.places
    return tuple([tuple(sorted([(places[node], level[node]) for node in level])) for level in levels])


def shows_least(gap, book, costs, told, cost):
    """Whether told are potentials that show that no filling costs less than cost, whatever both are."""
    filled = _filled(gap, book, costs)
    return is_number(cost) and is_shown(filled.bridging, filled.number, told, costs, cost)

"""How far the tones of a part of a score reach."""

from counterheld.folds import Fold
from counterheld.tones import added, between


class Reach(Fold):
    """The pair of the least numbers of all tones in columns, and of the greatest ones; None if no voice sounds."""

    def of_columns(self, columns, way):
        tones = []
        for _, _, entries in columns:
            for entry in entries:
                if entry is not None:
                    tones.append(entry[0])
        if not tones:
            return None
        fifths, octaves = [f for f, _ in tones], [o for _, o in tones]
        return ((min(fifths), min(octaves)), (max(fifths), max(octaves)))

    def joined(self, one, other):
        if one is None or other is None:
            return one if other is None else other
        low, high = one
        least, most = other
        return ((min(low[0], least[0]), min(low[1], least[1])), (max(high[0], most[0]), max(high[1], most[1])))

    def many_times(self, one, many):
        return one

    def changed(self, one, rule, way):
        if one is None:
            return None
        low, high = one
        if rule[0] == "raise":
            return (added(low, rule[2]), added(high, rule[2]))
        if rule[0] == "turn":
            return (between(high, rule[2]), between(low, rule[2]))
        return one


def reach_of(score):
    """The reaches of the parts of a score."""
    fold = score.plan.kept("reach")
    return score.plan.keep("reach", Reach(score.plan)) if fold is None else fold

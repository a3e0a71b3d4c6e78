"""Papers that a bridge brings one score to another one."""

from counterheld.bridges import BadBridge, check_bridge
from counterheld.likejudging import LikeJudge
from counterheld.likewriting import LikeWriter


def likeness_paper(one, other, bridge):
    """A paper that shows that the bridge brings one to other, or None if it does not."""
    checked = check_bridge(bridge, one.voices)
    if one.voices != other.voices or one.count != other.count:
        return None
    return LikeWriter(one, other).paper(checked)


def shows_alike(one, other, bridge, paper):
    """Whether the paper shows that the bridge brings one to other, whatever bridge and paper are."""
    try:
        checked = check_bridge(bridge, one.voices)
    except BadBridge:
        return False
    return one.voices == other.voices and LikeJudge(one, other).is_right(paper, checked)

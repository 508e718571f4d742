"""An unseen weight: what somebody weighs, told by what a walk did to the gap."""

from raftwalk.measures import NOUGHT
from raftwalk.measures import lowest
from raftwalk.measures import minus
from raftwalk.measures import times
from raftwalk.standings import driven
from raftwalk.standings import heavy_with
from raftwalk.stepping import index_of
from raftwalk.stepping import without


def quotient(one, other):
    """Tell one fraction by another, both either above or below nought."""
    return lowest(abs(one[0]) * other[1], one[1] * abs(other[0]))


def unseen(raft, folk, standing, name, places, gap):
    """Tell the weight of the one of the name by which the gap is so behind the walk.

    The raft and the known ones lack some of what drives it so far; each unit of the unseen weight
    adds what its own walk gives, less what it takes to drive it along.
    """
    at = index_of(folk, name)
    if at is None:
        return None
    known = without(folk, at)
    nearer = minus(standing[0], gap)
    by_known = minus(driven(raft, known, without(places, at)), driven(raft, known, without(standing[1], at)))
    lacking = times(minus(nearer, by_known), heavy_with(raft, known))
    by_each = minus(minus(places[at], standing[1][at]), nearer)
    if by_each == NOUGHT:
        return "any" if lacking == NOUGHT else None
    if lacking[0] * by_each[0] <= 0:
        return None
    return quotient(lacking, by_each)

"""Rafts, folk and standings: what is one, and what the gap is behind any walks."""

from raftwalk.measures import NOUGHT
from raftwalk.measures import is_at_most
from raftwalk.measures import is_fraction
from raftwalk.measures import is_name
from raftwalk.measures import is_tuple_of
from raftwalk.measures import is_whole_within
from raftwalk.measures import minus
from raftwalk.measures import plus
from raftwalk.measures import shared
from raftwalk.measures import times

MOST_OF_RAFT = 1000
MOST_FOLK = 7
MOST_HEAVY = 200
MOST_REACH = 100


def is_raft(thing):
    """Tell of anything whether it is a raft."""
    if not is_tuple_of(thing, 2):
        return False
    return all([is_whole_within(part, 1, MOST_OF_RAFT) for part in thing])


def is_somebody(thing):
    """Tell of anything whether it is a triple (name, heavy, reach)."""
    if not is_tuple_of(thing, 3):
        return False
    name, heavy, reach = thing
    return is_name(name) and is_whole_within(heavy, 1, MOST_HEAVY) and is_whole_within(reach, 0, MOST_REACH)


def are_folk(thing):
    """Tell of anything whether it is folk."""
    if not isinstance(thing, tuple) or not 1 <= len(thing) <= MOST_FOLK:
        return False
    if not all([is_somebody(one) for one in thing]):
        return False
    # Names are unlike, so folk rise just where their names do.
    names = [name for name, heavy, reach in thing]
    return names == sorted(set(names))


def are_places(raft, folk, thing):
    """Tell of anything whether it is places of the folk on the raft."""
    if not is_tuple_of(thing, len(folk)):
        return False
    back = (raft[0], 1)
    return all([is_fraction(place) and is_at_most(place, back) for place in thing])


def is_standing(raft, folk, thing):
    """Tell of anything whether it is a standing of the folk on the raft."""
    return is_tuple_of(thing, 2) and is_fraction(thing[0]) and are_places(raft, folk, thing[1])


def heavy_of(folk):
    """Tell what the folk weigh together."""
    return sum([heavy for name, heavy, reach in folk])


def heavy_with(raft, folk):
    """Tell what the raft and all folk weigh together."""
    return raft[1] + heavy_of(folk)


def driven(raft, folk, places):
    """Tell how far the raft is driven forward when the folk walk from the front to the places."""
    moment = NOUGHT
    for (name, heavy, reach), place in zip(folk, places):
        moment = plus(moment, times(place, heavy))
    return shared(moment, heavy_with(raft, folk))


def front_gap(raft, folk, standing):
    """Tell the gap when all stand at the front.

    The gap hangs on the places alone, so any walk may be reckoned by way of the front.
    """
    gap, places = standing
    return plus(gap, driven(raft, folk, places))


def gap_behind(raft, folk, standing, places):
    """Tell the gap when all have walked to the places, None where it would be below nought."""
    gap = minus(front_gap(raft, folk, standing), driven(raft, folk, places))
    return gap if is_at_most(NOUGHT, gap) else None


def gaps(raft, folk, standing):
    """Tell the least and the greatest gap that can be by any places."""
    back = tuple([(raft[0], 1) for one in folk])
    least = gap_behind(raft, folk, standing, back)
    # Places change bit by bit, so where some bring the gap below nought, some bring it to nought.
    return (NOUGHT if least is None else least, front_gap(raft, folk, standing))

"""Stepping off: who can, how all should stand for it, and what is left behind it."""

from raftwalk.measures import NOUGHT
from raftwalk.measures import is_at_most
from raftwalk.measures import minus
from raftwalk.measures import shared
from raftwalk.measures import times
from raftwalk.standings import front_gap
from raftwalk.standings import heavy_of
from raftwalk.standings import heavy_with


def index_of(folk, name):
    """Tell which of the folk has the name, None where nobody has."""
    for at, one in enumerate(folk):
        if one[0] == name:
            return at
    return None


def without(things, at):
    """Tell the tuple of things less the one that stands there."""
    return things[:at] + things[at + 1:]


def place_of_others(raft, folk, standing, at):
    """Tell one place for all others by which this one steps off at as great a gap as can be.

    What drives the raft is the others' heavy times their places, so if any places do, one
    place for all of them does. None where even the raft's back is not far enough.
    """
    reach = (folk[at][2], 1)
    missing = minus(front_gap(raft, folk, standing), reach)
    if is_at_most(missing, NOUGHT):
        return NOUGHT
    others = heavy_of(without(folk, at))
    if others == 0:
        return None
    place = shared(times(missing, heavy_with(raft, folk)), others)
    return place if is_at_most(place, (raft[0], 1)) else None


def places_for(raft, folk, standing, name):
    """Tell places by which the one of the name can step off at the greatest gap, None where none do."""
    at = index_of(folk, name)
    if at is None:
        return None
    others = place_of_others(raft, folk, standing, at)
    if others is None:
        return None
    return tuple([NOUGHT if k == at else others for k in range(len(folk))])


def can_step(raft, folk, standing):
    """Tell the names of all who can step off by some places, rising as the folk are."""
    return [one[0] for at, one in enumerate(folk) if place_of_others(raft, folk, standing, at) is not None]


def stepped(raft, folk, standing, name):
    """Tell (folk, standing) when the one of the name has stepped off, None where they can't so."""
    gap, places = standing
    at = index_of(folk, name)
    if at is None or places[at] != NOUGHT or not is_at_most(gap, (folk[at][2], 1)):
        return None
    return (without(folk, at), (gap, without(places, at)))

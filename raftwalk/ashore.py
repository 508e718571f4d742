"""Getting ashore: how many can, by which plan, which lots, and in which orders."""

from raftwalk.measures import is_tuple_of
from raftwalk.standings import are_places
from raftwalk.standings import front_gap
from raftwalk.standings import gap_behind
from raftwalk.stepping import places_for
from raftwalk.stepping import stepped
from raftwalk.stepping import without
from raftwalk.tables import front_gap_less
from raftwalk.tables import greatest_gaps
from raftwalk.tables import lots_of
from raftwalk.tables import staying


def lots(raft, folk, standing):
    """Tell all lots of names that can get ashore, rising."""
    found = greatest_gaps(raft, folk, standing)
    return [lot for lot in lots_of(folk) if found[lot] is not None]


def most_ashore(raft, folk, standing):
    """Tell how many can get ashore at most, and the first lot of as many."""
    # Of several as long max takes the first one, and the lots are rising.
    names = max(lots(raft, folk, standing), key=len)
    return (len(names), names)


def orders_from(raft, folk, gap, names):
    """Tell (number, first) of the orders in which these names can step off, of folk with this front gap.

    Whoever steps off at a lesser gap than can be leaves the others farther off, so an order can
    be gone through just where it can with each one at the greatest gap.
    """
    if not names:
        return (1, ())
    number, first = 0, None
    for at, name in enumerate(names):
        left = front_gap_less(raft, folk, gap, name)
        if left is not None:
            more, rest = orders_from(raft, staying(folk, (name,)), left, without(names, at))
            if first is None and rest is not None:
                first = (name,) + rest
            number += more
    return (number, first)


def orders(raft, folk, standing, lot):
    """Tell in how many orders the lot can get ashore, and the first of them, (0, None) where it can't."""
    return orders_from(raft, folk, front_gap(raft, folk, standing), tuple(sorted(lot)))


def plan(raft, folk, standing):
    """Tell a plan by which as many get ashore as can."""
    names = most_ashore(raft, folk, standing)[1]
    order = orders(raft, folk, standing, names)[1]
    steps = []
    for name in order:
        places = places_for(raft, folk, standing, name)
        gap = gap_behind(raft, folk, standing, places)
        folk, standing = stepped(raft, folk, (gap, places), name)
        steps.append((places, name))
    return steps


def left_by(raft, folk, standing, step):
    """Tell (folk, standing) behind anything as one step of a plan, None where it can't be one."""
    if not is_tuple_of(step, 2) or not are_places(raft, folk, step[0]):
        return None
    places, name = step
    gap = gap_behind(raft, folk, standing, places)
    if gap is None:
        return None
    return stepped(raft, folk, (gap, places), name)


def by_plan(raft, folk, standing, thing):
    """Tell of anything how many get ashore by it as a plan, None of what is none."""
    if not isinstance(thing, list):
        return None
    for step in thing:
        left = left_by(raft, folk, standing, step)
        if left is None:
            return None
        folk, standing = left
    return len(thing)

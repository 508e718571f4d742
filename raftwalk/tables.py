"""The table: the front gap of those who stay, lot by lot, which shows that no other lot can get ashore.

Where many steps follow one another front gaps are not brought to lowest terms on the way: each
step makes them longer by a few figures only, and dividing at each one would take far longer.
"""

from raftwalk.measures import NOUGHT
from raftwalk.measures import is_at_most
from raftwalk.measures import is_fraction
from raftwalk.measures import is_tuple_of
from raftwalk.measures import lowest
from raftwalk.measures import minus
from raftwalk.measures import shared
from raftwalk.measures import times
from raftwalk.standings import front_gap
from raftwalk.standings import heavy_of
from raftwalk.standings import heavy_with
from raftwalk.stepping import index_of
from raftwalk.stepping import without


def front_gap_less(raft, folk, gap, name):
    """Tell the front gap when the one of the name has stepped off, of folk with this front gap.

    They step off at as great a gap as can be, which is best for the others. None where they can't.
    """
    at = index_of(folk, name)
    if at is None:
        return None
    heavy, reach = folk[at][1], folk[at][2]
    top, bottom = gap
    whole = heavy_with(raft, folk)
    others = heavy_of(folk) - heavy
    if top * whole - raft[0] * others * bottom > reach * whole * bottom:
        return None
    if top <= reach * bottom:
        # They step off with all at the front, so it stays as it is.
        return gap
    return (top * whole - heavy * reach * bottom, bottom * (whole - heavy))


def lots_of(folk):
    """Tell all lots of names of the folk, rising."""
    found = [()]
    for name, heavy, reach in folk:
        found = found + [lot + (name,) for lot in found]
    return sorted(found)


def staying(folk, lot):
    """Tell those of the folk who are not in the lot."""
    return tuple([one for one in folk if one[0] not in lot])


def greatest_gap(raft, folk, lot, found):
    """Tell the greatest gap that a table may have for the lot, None where it may have None.

    It hangs on the gaps found for the lots with one name less alone.
    """
    greatest = None
    for at, name in enumerate(lot):
        before = without(lot, at)
        if found[before] is not None:
            gap = front_gap_less(raft, staying(folk, before), found[before], name)
            if gap is not None and (greatest is None or is_at_most(gap, greatest)):
                greatest = gap
    return greatest


def greatest_gaps(raft, folk, standing):
    """Tell the gaps of the table whose gaps are as great as can be, by lots."""
    found = {(): front_gap(raft, folk, standing)}
    by_size = sorted(lots_of(folk), key=len)
    for lot in by_size[1:]:
        found[lot] = greatest_gap(raft, folk, lot, found)
    return found


def table(raft, folk, standing):
    """Tell the table whose gaps are as great as can be, None wherever that can be."""
    found = greatest_gaps(raft, folk, standing)
    rows = []
    for lot in lots_of(folk):
        gap = found[lot]
        rows.append((lot, None if gap is None else lowest(gap[0], gap[1])))
    return tuple(rows)


def gaps_by_lots(folk, thing):
    """Tell the gaps of a thing that is made as a table is, by lots; None of any other thing."""
    lots = lots_of(folk)
    if not is_tuple_of(thing, len(lots)):
        return None
    found = {}
    for lot, row in zip(lots, thing):
        if not is_tuple_of(row, 2) or row[0] != lot:
            return None
        if row[1] is not None and not is_fraction(row[1]):
            return None
        found[lot] = row[1]
    return found


def is_within(gap, greatest):
    """Tell whether a table may have the gap where this one is the greatest it may have."""
    if greatest is None:
        return True
    return gap is not None and is_at_most(gap, greatest)


def shown(raft, folk, standing, thing):
    """Tell of anything the lots that it shows as a table, None of what is no table."""
    found = gaps_by_lots(folk, thing)
    if found is None or not is_within(found[()], front_gap(raft, folk, standing)):
        return None
    for lot in found:
        if not is_within(found[lot], greatest_gap(raft, folk, lot, found)):
            return None
    return [lot for lot in found if found[lot] is not None]


def must_stay(raft, folk, standing):
    """Tell what those who stay must weigh at least, None where reaches are unlike."""
    reaches = [reach for name, heavy, reach in folk]
    if len(set(reaches)) != 1:
        return None
    missing = minus(front_gap(raft, folk, standing), (reaches[0], 1))
    if is_at_most(missing, NOUGHT):
        return NOUGHT
    return shared(times(missing, heavy_with(raft, folk)), raft[0])

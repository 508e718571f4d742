"""What the tests share: things of all kinds, cases, and an oracle over fractions.Fraction."""

from fractions import Fraction
from itertools import product


def nested(depth, kind, core):
    thing = core
    for _ in range(depth):
        thing = kind([thing])
    return thing


def mixed(depth, core):
    thing = core
    for level in range(depth):
        thing = [thing] if level & 1 else (thing, thing)
    return thing


ANYTHING = [
    0, 1, -1, 2, 7, 1000, 1001, 10 ** 39, -10 ** 39, 10 ** 40, 10 ** 400, 1.5, 1.0,
    "", "a", "ann", "Ann", "ann bob", "abcdefgh", "abcdefghi", "~" * 1000, "a" * 1000, "\n",
    True, False, None, [], (), [None], (None,), [1, 1], (None, None), (1, None), (None, 1),
    (True, True), (False, False), (1, True), (True, 1), ("a", "b"), ("a", 1, 1), ["a", 1, 1],
    (("a", 1),), (("a", 1, 1, 1),), (("a", "b", "c"),), ((1, 1, 1),), (None, ()), ((), ()),
    ((0, 1),), ((0, 1), None), ((0, 1), (None,)), ((0, 1), ((),)), ((0, 1), "a"), ((0, 1), 1),
    ((0, 1), ((0, 1),), ()), (([0, 1]), ((0, 1),)), [(0, 1), ((0, 1),)], ((0, 1), [(0, 1)]),
    tuple(range(300)), list(range(300)), ((0, 1),) * 300, [(0, 1)] * 300,
    nested(20, list, None), nested(20, tuple, None), nested(20, list, 1), nested(20, tuple, "a"),
    mixed(10, (0, 1)), mixed(5, ("a", 1, 1)), nested(20, tuple, (0, 1)), nested(19, tuple, ("a", 1, 1)),
]


def frac(told):
    return Fraction(told[0], told[1])


def pair(number):
    number = Fraction(number)
    return (number.numerator, number.denominator)


def middle(raft, folk, standing):
    """The common middle of all, from the pier, times all they weigh, as plain mechanics has it."""
    gap, places = standing
    long, heavy = raft
    return heavy * (frac(gap) + Fraction(long, 2)) + sum(
        one[1] * (frac(gap) + frac(place)) for one, place in zip(folk, places)
    )


def gap_by_middle(raft, folk, standing, places):
    """The signed gap that keeps the middle where it is."""
    whole = raft[1] + sum(one[1] for one in folk)
    at_pier = middle(raft, folk, ((0, 1), places))
    return (middle(raft, folk, standing) - at_pier) / whole


def grid(raft, folk, steps=2):
    """All places of the folk at even steps from the front to the back."""
    row = [pair(Fraction(raft[0] * k, steps)) for k in range(steps + 1)]
    return [tuple(places) for places in product(row, repeat=len(folk))]


RAFTS = [(1, 1), (4, 10), (6, 100), (7, 3), (1000, 1000)]
FOLKS = [
    (("a", 1, 0),),
    (("ann", 60, 1),),
    (("ann", 60, 2), ("bob", 80, 0)),
    (("a", 1, 1), ("b", 1, 3)),
    (("ann", 50, 1), ("bob", 70, 2), ("cy", 200, 100)),
    (("a", 3, 0), ("b", 5, 0), ("c", 7, 0), ("d", 11, 4)),
]
SEVEN = tuple((name, heavy, reach) for name, heavy, reach in zip("abcdefg", (1, 2, 3, 50, 90, 150, 200), range(7)))
GAPS = [(0, 1), (1, 3), (1, 1), (5, 2), (4, 1), (40, 1), (10 ** 39, 7)]


def cases():
    """Rafts, folk and standings of all sorts."""
    for raft, folk, gap in product(RAFTS, FOLKS, GAPS):
        for places in grid(raft, folk, 1):
            yield raft, folk, (gap, places)
    odd = tuple(pair(Fraction(k + 1, k + 2)) for k in range(7))
    for raft, gap in product(RAFTS, GAPS):
        yield raft, SEVEN, (gap, odd)

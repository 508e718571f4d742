"""What the tests share: things of all kinds, cases, and an oracle over fractions.Fraction."""

from fractions import Fraction
from itertools import combinations, product

from raftwalk.standings import gap_behind
from raftwalk.stepping import can_step, places_for, stepped


def nested(depth, kind, core):
    thing = core
    for _ in range(depth):
        thing = kind([thing])
    return thing


def mixed(depth, core):
    thing = core
    for level in range(depth):
        thing = [thing] if level & 1 else (thing, thing)
    return thing


ANYTHING = [
    0, 1, -1, 2, 7, 1000, 1001, 10 ** 39, -10 ** 39, 10 ** 40, 10 ** 400, 1.5, 1.0,
    "", "a", "ann", "Ann", "ann bob", "abcdefgh", "abcdefghi", "~" * 1000, "a" * 1000, "\n",
    True, False, None, [], (), [None], (None,), [1, 1], (None, None), (1, None), (None, 1),
    (True, True), (False, False), (1, True), (True, 1), ("a", "b"), ("a", 1, 1), ["a", 1, 1],
    (("a", 1),), (("a", 1, 1, 1),), (("a", "b", "c"),), ((1, 1, 1),), (None, ()), ((), ()),
    ((0, 1),), ((0, 1), None), ((0, 1), (None,)), ((0, 1), ((),)), ((0, 1), "a"), ((0, 1), 1),
    ((0, 1), ((0, 1),), ()), (([0, 1]), ((0, 1),)), [(0, 1), ((0, 1),)], ((0, 1), [(0, 1)]),
    tuple(range(300)), list(range(300)), ((0, 1),) * 300, [(0, 1)] * 300,
    nested(20, list, None), nested(20, tuple, None), nested(20, list, 1), nested(20, tuple, "a"),
    mixed(10, (0, 1)), mixed(5, ("a", 1, 1)), nested(20, tuple, (0, 1)), nested(19, tuple, ("a", 1, 1)),
]


def frac(told):
    return Fraction(told[0], told[1])


def pair(number):
    number = Fraction(number)
    return (number.numerator, number.denominator)


def middle(raft, folk, standing):
    """The common middle of all, from the pier, times all they weigh, as plain mechanics has it."""
    gap, places = standing
    long, heavy = raft
    return heavy * (frac(gap) + Fraction(long, 2)) + sum(
        one[1] * (frac(gap) + frac(place)) for one, place in zip(folk, places)
    )


def gap_by_middle(raft, folk, standing, places):
    """The signed gap that keeps the middle where it is."""
    whole = raft[1] + sum(one[1] for one in folk)
    at_pier = middle(raft, folk, ((0, 1), places))
    return (middle(raft, folk, standing) - at_pier) / whole


def grid(raft, folk, steps=2):
    """All places of the folk at even steps from the front to the back."""
    row = [pair(Fraction(raft[0] * k, steps)) for k in range(steps + 1)]
    return [tuple(places) for places in product(row, repeat=len(folk))]


RAFTS = [(1, 1), (4, 10), (6, 100), (7, 3), (1000, 1000)]
FOLKS = [
    (("a", 1, 0),),
    (("ann", 60, 1),),
    (("ann", 60, 2), ("bob", 80, 0)),
    (("a", 1, 1), ("b", 1, 3)),
    (("ann", 50, 1), ("bob", 70, 2), ("cy", 200, 100)),
    (("a", 3, 0), ("b", 5, 0), ("c", 7, 0), ("d", 11, 4)),
]
SEVEN = tuple((name, heavy, reach) for name, heavy, reach in zip("abcdefg", (1, 2, 3, 50, 90, 150, 200), range(7)))
GAPS = [(0, 1), (1, 3), (1, 1), (5, 2), (4, 1), (40, 1), (10 ** 39, 7)]


def cases():
    """Rafts, folk and standings of all sorts."""
    for raft, folk, gap in product(RAFTS, FOLKS, GAPS):
        for places in grid(raft, folk, 1):
            yield raft, folk, (gap, places)
    odd = tuple(pair(Fraction(k + 1, k + 2)) for k in range(7))
    for raft, gap in product(RAFTS, GAPS):
        yield raft, SEVEN, (gap, odd)


# Crossings where it matters who goes when: unlike reaches, and alike ones at the edge.
THREE = (("ann", 50, 2), ("bob", 70, 2), ("cy", 40, 2))
FRONT = ((0, 1), (0, 1), (0, 1))
IN_ONE_ORDER = ((4, 40), (("ann", 20, 1), ("bob", 20, 0), ("cy", 50, 3)), ((2, 1), FRONT))
FIVE = (("al", 30, 0), ("bo", 110, 4), ("cy", 75, 1), ("di", 60, 2), ("ed", 150, 3))


def crossings():
    """Rafts, folk of few and standings, from none who can get ashore to all."""
    for folk in FOLKS[2:] + [THREE, IN_ONE_ORDER[1]]:
        for raft, top in product([(4, 40), (6, 100), (10, 7)], range(0, 17, 2)):
            yield raft, folk, (pair(Fraction(top, 3)), tuple((0, 1) for _ in folk))
            yield raft, folk, (pair(Fraction(top, 4)), tuple(pair(Fraction(k, k + 1)) for k, _ in enumerate(folk)))
    for top in range(1, 8):
        yield (12, 90), FIVE, ((top, 1), ((1, 2), (0, 1), (1, 3), (0, 1), (2, 7)))


def names(folk):
    return [one[0] for one in folk]


def subsets(folk):
    """All lots of names of the folk, rising."""
    return sorted(lot for many in range(len(folk) + 1) for lot in combinations(names(folk), many))


def chances(raft, folk, standing):
    """All orders in which some get ashore, () too, gone through one by one."""
    yield ()
    for name in can_step(raft, folk, standing):
        places = places_for(raft, folk, standing, name)
        gap = gap_behind(raft, folk, standing, places)
        left = stepped(raft, folk, (gap, places), name)
        for rest in chances(raft, *left):
            yield (name,) + rest


def seven(reaches, gap=(9, 1)):
    """Seven folk of these reaches, with numbers as long as may be handed in."""
    folk = tuple(zip("abcdefg", (50, 62, 73, 84, 95, 110, 200), reaches))
    places = tuple(pair(Fraction(10 ** 39 + 2 * k + 1, 10 ** 39 + 3 * k + 8)) for k in range(7))
    return (12, 40), folk, (gap, places)

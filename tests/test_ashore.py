"""Points 8 and 9: how many get ashore, by which plan, which lots, in which orders."""

import unittest
from fractions import Fraction
from itertools import permutations

from raftwalk.ashore import by_plan, lots, most_ashore, orders, plan
from raftwalk.standings import are_places, gap_behind
from raftwalk.stepping import stepped
from tests.helper import (
    ANYTHING, FIVE, FRONT, IN_ONE_ORDER, SEVEN, THREE, cases, chances, crossings, frac, grid, mixed, names, nested,
    pair, seven, subsets,
)

RAFT = (4, 40)
TWO = (("ann", 60, 2), ("bob", 100, 0))
ANN = TWO[:1]


def front(gap, folk=THREE):
    return (gap, tuple((0, 1) for _ in folk))


def gone_through(raft, folk, standing, steps):
    """The names that get ashore by the steps, by gap_behind and stepped alone."""
    ashore = []
    for places, name in steps:
        assert are_places(raft, folk, places)
        gap = gap_behind(raft, folk, standing, places)
        folk, standing = stepped(raft, folk, (gap, places), name)
        ashore.append(name)
    return ashore


class MostAshore(unittest.TestCase):
    def test_nobody(self):
        self.assertEqual(most_ashore(RAFT, THREE, front((100, 1))), (0, ()))
        self.assertEqual(most_ashore(RAFT, ANN, ((3, 1), ((0, 1),))), (0, ()))

    def test_the_last_one_too(self):
        self.assertEqual(most_ashore(RAFT, ANN, ((2, 1), ((0, 1),))), (1, ("ann",)))
        self.assertEqual(most_ashore(RAFT, THREE, front((2, 1))), (3, ("ann", "bob", "cy")))
        self.assertEqual(most_ashore(*IN_ONE_ORDER), (3, ("ann", "bob", "cy")))

    def test_first_of_several_as_large(self):
        # 110 must stay, then 50: bob alone cannot go, nor can ann with bob.
        self.assertEqual(most_ashore(RAFT, THREE, front((21, 5))), (1, ("ann",)))
        self.assertEqual(most_ashore(RAFT, THREE, front((22, 5))), (1, ("cy",)))
        self.assertEqual(most_ashore(RAFT, THREE, front((3, 1))), (2, ("ann", "cy")))

    def test_two_of_unlike_reach(self):
        self.assertEqual(most_ashore(RAFT, TWO, front((3, 1), TWO)), (1, ("ann",)))

    def test_just_at_the_edge_of_all(self):
        self.assertEqual(most_ashore(RAFT, THREE, front((2 * 10 ** 38 + 1, 10 ** 38)))[0], 2)

    def test_walked_before(self):
        for places in grid(RAFT, THREE, 2):
            gap = gap_behind(RAFT, THREE, front((3, 1)), places)
            if gap is not None:
                self.assertEqual(most_ashore(RAFT, THREE, (gap, places)), (2, ("ann", "cy")))

    def test_one_by_one(self):
        for raft, folk, standing in crossings():
            found = {tuple(sorted(order)) for order in chances(raft, folk, standing)}
            number = max(map(len, found))
            first = min(lot for lot in found if len(lot) == number)
            self.assertEqual(most_ashore(raft, folk, standing), (number, first), (raft, folk, standing))

    def test_kinds_and_by_name(self):
        told = most_ashore(standing=front((3, 1)), folk=THREE, raft=RAFT)
        self.assertEqual([type(told), type(told[0]), type(told[1])], [tuple, int, tuple])

    def test_nobody_left(self):
        self.assertEqual(most_ashore(RAFT, (), ((2, 1), ())), (0, ()))
        self.assertEqual(plan(RAFT, (), ((2, 1), ())), [])
        self.assertEqual(by_plan(RAFT, (), ((2, 1), ()), []), 0)
        self.assertEqual(lots(RAFT, (), ((2, 1), ())), [()])


class Plans(unittest.TestCase):
    def check(self, raft, folk, standing):
        told = plan(raft, folk, standing)
        number = most_ashore(raft, folk, standing)[0]
        self.assertIs(type(told), list)
        self.assertTrue(all(type(step) is tuple and len(step) == 2 for step in told))
        ashore = gone_through(raft, folk, standing, told)
        self.assertEqual(len(set(ashore)), number, (raft, folk, standing))
        self.assertEqual(by_plan(raft, folk, standing, told), number)

    def test_told_plan_lets_just_so_many_ashore(self):
        for raft, folk, standing in crossings():
            self.check(raft, folk, standing)

    def test_cases_of_all_sorts(self):
        for raft, folk, standing in cases():
            self.check(raft, folk, standing)

    def test_long_numbers(self):
        for reaches in ((5,) * 7, range(7), (3, 1, 4, 1, 5, 9, 2), (0,) * 7):
            self.check(*seven(reaches))

    def test_nobody(self):
        self.assertEqual(plan(RAFT, THREE, front((100, 1))), [])

    def test_just_one_way(self):
        # All of the others must be at the very back.
        self.assertEqual(plan(RAFT, TWO, front((4, 1), TWO)), [(((0, 1), (4, 1)), "ann")])
        self.assertEqual(plan(RAFT, ANN, ((2, 1), ((0, 1),))), [(((0, 1),), "ann")])

    def test_by_name(self):
        self.assertEqual(len(plan(standing=front((3, 1)), folk=THREE, raft=RAFT)), 2)


GOOD = [(((0, 1), (1, 1), (1, 1)), "ann"), (((1, 1), (0, 1)), "cy")]


class ByPlan(unittest.TestCase):
    standing = ((2, 1), FRONT)

    def told(self, thing, standing=None):
        return by_plan(RAFT, THREE, standing or self.standing, thing)

    def none_of(self, things):
        for thing in things:
            self.assertIsNone(self.told(thing), repr(thing)[:200])

    def test_empty_plan(self):
        self.assertEqual(self.told([]), 0)
        self.assertEqual(self.told([], ((100, 1), FRONT)), 0)

    def test_some_all_and_none_left(self):
        all_three = [(FRONT, "bob"), (FRONT[1:], "cy"), (FRONT[2:], "ann")]
        for many in range(4):
            self.assertEqual(self.told(all_three[:many]), many)
        for more in (((), "bob"), ((), ""), ((), None), (((0, 1),), "ann"), None, ()):
            self.none_of([all_three + [more]])

    def test_whoever_goes_at_a_lesser_gap_leaves_the_last_one_too_far(self):
        self.assertEqual(self.told(GOOD[:1]), 1)
        self.assertEqual(self.told(GOOD), 2)
        self.none_of([GOOD + [(((0, 1),), "bob")]])

    def test_fewer_than_could(self):
        self.assertEqual(self.told([(((4, 1), (0, 1), (0, 1)), "bob")]), 1)

    def test_places_too_few_and_too_many(self):
        self.none_of([
            [(((0, 1), (1, 1)), "ann")], [((), "ann")], [(((0, 1),) * 4, "ann")], [(((0, 1),) * 300, "ann")],
            GOOD[:1] + [(((1, 1), (0, 1), (0, 1)), "cy")], GOOD[:1] + [(((0, 1),), "cy")], GOOD[:1] * 2,
        ])

    def test_places_beyond_the_long(self):
        self.assertEqual(self.told([(((0, 1), (4, 1), (0, 1)), "ann")]), 1)
        self.none_of([
            [(((0, 1), (5, 1), (0, 1)), "ann")],
            [(((0, 1), (4 * 10 ** 38 + 1, 10 ** 38), (0, 1)), "ann")],
            GOOD[:1] + [(((9, 2), (0, 1)), "cy")],
        ])

    def test_places_that_are_no_fractions(self):
        for wrong in (1, 0, None, "1", True, (2, 2), (0, 2), (1, 0), (-1, 1), (1, -1), [1, 1], (1,), (1, 1, 1), (True, 1),
                      (1, True), (1.0, 1), 0.5, (), ((1, 1),)):
            self.none_of([[(((0, 1), wrong, (1, 1)), "ann")], [((wrong, (0, 1), (0, 1)), "bob")]])
        self.none_of([[(thing, "ann")] for thing in ANYTHING])

    def test_places_in_a_list(self):
        self.none_of([[([(0, 1), (1, 1), (1, 1)], "ann")], [(([0, 1], (1, 1), (1, 1)), "ann")]])

    def test_gap_below_nought(self):
        # 110 by 4 of 200 in all: nearer by 11/5.
        step = (((0, 1), (4, 1), (4, 1)), "ann")
        self.assertEqual(self.told([step], ((11, 5), FRONT)), 1)
        self.assertIsNone(self.told([step], ((11 * 10 ** 38 - 1, 5 * 10 ** 38), FRONT)))
        self.none_of([[step], [step, GOOD[1]]])
        self.none_of([GOOD[:1] + [(((4, 1), (4, 1)), "cy")]])

    def test_gap_is_reckoned_from_where_all_stand_then(self):
        first = (((0, 1), (2, 1), (2, 1)), "ann")
        # 9/10 is left, by which 110 of 150 in all stand at 2 each.
        self.assertEqual(self.told([first, (((0, 1), (4, 1)), "bob")]), 2)
        self.assertEqual(self.told([first, (((0, 1), (0, 1)), "bob")], ((2, 1), FRONT)), None)

    def test_names_of_nobody(self):
        places = ((0, 1), (0, 1), (0, 1))
        self.none_of([[(places, name)] for name in ("dan", "an", "annn", "Ann", "", " ann", "ann\n", ("ann",), ["ann"], b"ann")])
        self.none_of([[(places, thing)] for thing in ANYTHING if thing != "ann"])

    def test_one_who_is_ashore_already(self):
        self.none_of([GOOD[:1] + [(((0, 1), (0, 1)), "ann")]])

    def test_one_who_does_not_stand_at_the_front(self):
        self.none_of([
            [(((1, 1), (0, 1), (0, 1)), "ann")], [(((1, 10 ** 39), (0, 1), (0, 1)), "ann")],
            GOOD[:1] + [(((0, 1), (1, 1)), "cy")],
        ])

    def test_reach_too_little(self):
        at_front = [(FRONT, "cy")]
        self.assertEqual(self.told(at_front, ((2, 1), FRONT)), 1)
        self.assertIsNone(self.told(at_front, ((2 * 10 ** 38 + 1, 10 ** 38), FRONT)))
        self.assertIsNone(self.told(at_front, ((3, 1), FRONT)))
        folk = (("ann", 60, 1), ("bob", 100, 9))
        self.assertEqual(by_plan(RAFT, folk, front((5, 1), folk), [(FRONT[1:], "bob")]), 1)
        self.assertIsNone(by_plan(RAFT, folk, front((5, 1), folk), [(FRONT[1:], "ann")]))

    def test_right_steps_and_then_a_wrong_one(self):
        self.none_of([GOOD + [thing] for thing in ANYTHING])
        self.none_of([GOOD[:1] + [thing] + GOOD[1:] for thing in (None, (), [], "ann", 1)])

    def test_tuple_for_the_list_and_lists_for_pairs(self):
        self.none_of([tuple(GOOD), (), (GOOD,), [GOOD], [list(GOOD[0])], [list(step) for step in GOOD], GOOD[0]])
        self.none_of([[GOOD[0] + (1,)], [GOOD[0][:1]], [(GOOD[0][1], GOOD[0][0])], [(GOOD[0],)]])

    def test_anything(self):
        self.none_of([thing for thing in ANYTHING if thing != []])
        self.none_of([[thing] for thing in ANYTHING])
        self.none_of([nested(19, kind, GOOD) for kind in (list, tuple)] + [mixed(8, GOOD), mixed(8, GOOD[0])])

    def test_by_name(self):
        self.assertEqual(by_plan(thing=GOOD, standing=self.standing, folk=THREE, raft=RAFT), 2)


class Lots(unittest.TestCase):
    def test_none_but_the_empty_one(self):
        self.assertEqual(lots(RAFT, THREE, front((100, 1))), [()])

    def test_some(self):
        self.assertEqual(lots(RAFT, THREE, front((21, 5))), [(), ("ann",), ("cy",)])
        self.assertEqual(
            lots(RAFT, THREE, front((3, 1))),
            [(), ("ann",), ("ann", "cy"), ("bob",), ("bob", "cy"), ("cy",)],
        )
        self.assertEqual(lots(RAFT, TWO, front((3, 1), TWO)), [(), ("ann",)])

    def test_all(self):
        self.assertEqual(lots(RAFT, THREE, front((2, 1))), subsets(THREE))
        self.assertEqual(len(lots((5, 5), SEVEN, front((0, 1), SEVEN))), 128)

    def test_one_may_need_another_to_go_first(self):
        found = {tuple(sorted(order)) for order in chances(*IN_ONE_ORDER)}
        self.assertEqual(lots(*IN_ONE_ORDER), sorted(found))

    def test_one_by_one(self):
        for raft, folk, standing in crossings():
            found = sorted({tuple(sorted(order)) for order in chances(raft, folk, standing)})
            self.assertEqual(lots(raft, folk, standing), found, (raft, folk, standing))

    def test_whatever_they_do_no_other_lot_gets_ashore(self):
        for raft, folk, standing in [
            IN_ONE_ORDER, (RAFT, THREE, front((3, 1))), (RAFT, THREE, front((21, 5))), (RAFT, TWO, front((3, 1), TWO)),
            ((6, 100), (("a", 80, 1), ("b", 50, 3), ("c", 20, 0)), front((5, 2))),
        ]:
            self.assertLessEqual(self.roamed(raft, folk, standing), set(lots(raft, folk, standing)))

    def roamed(self, raft, folk, standing):
        """All lots that get ashore by places on a grid."""
        found = {()}
        for places in grid(raft, folk, 3):
            gap = gap_behind(raft, folk, standing, places)
            for name in names(folk):
                left = gap and stepped(raft, folk, (gap, places), name)
                if left:
                    found |= {tuple(sorted(lot + (name,))) for lot in self.roamed(raft, *left)}
        return found

    def test_rising_and_kinds(self):
        for raft, folk, standing in crossings():
            told = lots(raft=raft, folk=folk, standing=standing)
            self.assertIs(type(told), list)
            self.assertEqual(told, sorted(set(told)))
            for lot in told:
                self.assertIs(type(lot), tuple)
                self.assertEqual(list(lot), sorted(set(lot)))


class Orders(unittest.TestCase):
    def test_empty_lot(self):
        for raft, folk, standing in crossings():
            self.assertEqual(orders(raft, folk, standing, ()), (1, ()))

    def test_a_lot_that_cannot(self):
        self.assertEqual(orders(RAFT, THREE, front((21, 5)), ("bob",)), (0, None))
        self.assertEqual(orders(RAFT, THREE, front((3, 1)), ("ann", "bob", "cy")), (0, None))
        self.assertEqual(orders(RAFT, THREE, front((100, 1)), ("ann",)), (0, None))

    def test_in_any_order(self):
        self.assertEqual(orders(RAFT, THREE, front((2, 1)), ("ann", "bob", "cy")), (6, ("ann", "bob", "cy")))
        self.assertEqual(orders(RAFT, THREE, front((3, 1)), ("bob", "cy")), (2, ("bob", "cy")))

    def test_in_one_order(self):
        self.assertEqual(orders(*IN_ONE_ORDER, ("ann", "bob", "cy")), (1, ("bob", "ann", "cy")))

    def test_one_by_one(self):
        for raft, folk, standing in crossings():
            found = list(chances(raft, folk, standing))
            told = lots(raft, folk, standing)
            for lot in subsets(folk):
                due = [order for order in found if tuple(sorted(order)) == lot]
                answer = orders(raft, folk, standing, lot)
                self.assertEqual(answer, (len(due), min(due) if due else None), (raft, folk, standing, lot))
                self.assertEqual(answer == (0, None), lot not in told)

    def test_the_first_order_can_be_gone_through(self):
        raft, folk, standing = seven((0, 1, 2, 3, 4, 5, 6), (3, 1))
        number, first = orders(raft, folk, standing, tuple("abcdefg"))
        self.assertTrue(0 < number < 5040)
        self.assertEqual(self.steps_of(raft, folk, standing, first), 7)
        for order in permutations("abcdefg"):
            if order == first:
                break
            self.assertLess(self.steps_of(raft, folk, standing, order), 7)

    def steps_of(self, raft, folk, standing, order):
        """How many of the order step off, by plain fractions, each at as great a gap as can be."""
        gap = frac(standing[0]) + sum(Fraction(one[1] * frac(place)) for one, place in zip(folk, standing[1])) / (
            raft[1] + sum(one[1] for one in folk))
        left = {name: (heavy, reach) for name, heavy, reach in folk}
        for many, name in enumerate(order):
            whole = raft[1] + sum(heavy for heavy, reach in left.values())
            heavy, reach = left.pop(name)
            if gap - raft[0] * Fraction(whole - raft[1] - heavy, whole) > reach:
                return many
            gap = (whole * gap - heavy * min(gap, reach)) / (whole - heavy)
        return len(order)

    def test_counted_with_long_numbers(self):
        raft, folk, standing = seven((3, 1, 4, 1, 5, 9, 2), (4, 1))
        lot = ("a", "b", "d", "f", "g")
        due = [order for order in permutations(lot) if self.steps_of(raft, folk, standing, order) == 5]
        self.assertTrue(0 < len(due) < 120)
        self.assertEqual(orders(raft, folk, standing, lot), (len(due), due[0]))

    def test_kinds_and_by_name(self):
        told = orders(lot=("ann", "cy"), standing=front((3, 1)), folk=THREE, raft=RAFT)
        self.assertEqual(told, (2, ("ann", "cy")))
        self.assertEqual([type(told), type(told[0]), type(told[1])], [tuple, int, tuple])

    def test_names_that_are_not_of_the_folk(self):
        self.assertEqual(orders(RAFT, THREE, front((2, 1)), ("dan",)), (0, None))
        self.assertEqual(orders(RAFT, THREE, front((2, 1)), ("ann", "ann")), (0, None))

    def test_five_of_unlike_reach(self):
        counts = {orders((12, 90), FIVE, (pair(top), ((0, 1),) * 5), tuple(names(FIVE)))[0] for top in range(0, 8)}
        self.assertTrue({0, 120} < counts, counts)


if __name__ == "__main__":
    unittest.main()

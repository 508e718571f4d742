"""Points 10 and 11: the table, what it shows, and what must stay."""

import unittest
from fractions import Fraction

from raftwalk.ashore import lots, orders
from raftwalk.standings import gap_behind, gaps
from raftwalk.tables import must_stay, shown, table
from tests.helper import (
    ANYTHING, FOLKS, FRONT, IN_ONE_ORDER, RAFTS, THREE, cases, crossings, frac, grid, mixed, nested, pair, seven, subsets,
)

RAFT = (4, 40)
TWO = (("ann", 60, 2), ("bob", 100, 0))
TWO_AT = ((3, 1), FRONT[1:])
TWO_TABLE = (((), (3, 1)), (("ann",), (24, 7)), (("ann", "bob"), None), (("bob",), None))
TINY = Fraction(1, 10 ** 30)


def limits(raft, folk, gaps_of, lot):
    """What the gaps of a table ask of this lot's, one for each who may have been the last, by the document."""
    found = []
    for name in lot:
        before = tuple(each for each in lot if each != name)
        if gaps_of[before] is None:
            continue
        gap = frac(gaps_of[before])
        on_raft = {one[0]: one for one in folk if one[0] not in before}
        whole = raft[1] + sum(one[1] for one in on_raft.values())
        heavy, reach = on_raft[name][1:]
        others = sum(one[1] for one in on_raft.values() if one[0] != name)
        if gap - Fraction(raft[0] * others, whole) <= reach:
            found.append((whole * gap - heavy * min(Fraction(reach), gap)) / (whole - heavy))
    return found


def is_table(raft, folk, standing, rows):
    """Whether rows that are made as a table's are one."""
    gaps_of = dict(rows)
    if gaps_of[()] is None or frac(gaps_of[()]) > frac(gaps(raft, folk, standing)[1]):
        return False
    for lot, gap in rows:
        asked = limits(raft, folk, gaps_of, lot)
        if asked and (gap is None or frac(gap) > min(asked)):
            return False
    return True


def with_gap(rows, at, gap):
    return rows[:at] + ((rows[at][0], gap),) + rows[at + 1:]


class Tables(unittest.TestCase):
    def test_two(self):
        self.assertEqual(table(RAFT, TWO, TWO_AT), TWO_TABLE)

    def test_all_at_the_front(self):
        due = tuple((lot, (2, 1)) for lot in subsets(THREE))
        self.assertEqual(table(RAFT, THREE, ((2, 1), FRONT)), due)

    def test_nobody_can(self):
        due = tuple((lot, None if lot else (100, 1)) for lot in subsets(THREE))
        self.assertEqual(table(RAFT, THREE, ((100, 1), FRONT)), due)

    def test_least_of_several_orders(self):
        # bob at nought and then ann at 1 leaves (260 - 20) by 90; ann first can't be followed by bob.
        rows = dict(table(*IN_ONE_ORDER))
        self.assertEqual(rows[("ann", "bob")], (8, 3))
        self.assertEqual(rows[("ann", "bob", "cy")], (8, 3))
        # bob and then cy leave (640 - 20) by 300, cy and then bob (440 - 20) by 200.
        folk = (("bob", 20, 1), ("cy", 100, 3), ("dan", 100, 0))
        self.assertEqual(orders((4, 100), folk, ((2, 1), FRONT), ("bob", "cy"))[0], 2)
        self.assertEqual(dict(table((4, 100), folk, ((2, 1), FRONT)))[("bob", "cy")], (31, 15))

    def test_front_gap_of_where_they_stand(self):
        self.assertEqual(table(RAFT, TWO, ((1, 1), ((4, 1), (8, 5))))[0], ((), (3, 1)))
        for places in grid(RAFT, TWO, 4):
            gap = gap_behind(RAFT, TWO, TWO_AT, places)
            if gap is not None:
                self.assertEqual(table(RAFT, TWO, (gap, places)), TWO_TABLE)

    def test_is_a_table_and_the_greatest(self):
        for raft, folk, standing in list(crossings()) + list(cases())[::7]:
            told = table(raft, folk, standing)
            self.assertEqual([lot for lot, gap in told], subsets(folk))
            self.assertTrue(is_table(raft, folk, standing, told))
            self.assertEqual(told[0][1], gaps(raft, folk, standing)[1])
            for lot, gap in told[1:]:
                asked = limits(raft, folk, dict(told), lot)
                self.assertEqual(gap, pair(min(asked)) if asked else None, (raft, folk, standing, lot))

    def test_kinds_and_by_name(self):
        told = table(standing=TWO_AT, folk=TWO, raft=RAFT)
        self.assertIs(type(told), tuple)
        for row in told:
            self.assertIs(type(row), tuple)
            self.assertIs(type(row[0]), tuple)
            self.assertIn(type(row[1]), (tuple, type(None)))

    def test_nobody_left(self):
        self.assertEqual(table(RAFT, (), ((5, 2), ())), (((), (5, 2)),))
        self.assertEqual(shown(RAFT, (), ((5, 2), ()), (((), (5, 2)),)), [()])


class Shown(unittest.TestCase):
    def of_two(self, thing):
        return shown(RAFT, TWO, TWO_AT, thing)

    def none_of(self, things):
        for thing in things:
            self.assertIsNone(self.of_two(thing), repr(thing)[:200])

    def test_told_table_shows_the_told_lots(self):
        for raft, folk, standing in list(crossings()) + list(cases()):
            told = lots(raft, folk, standing)
            self.assertEqual(shown(raft, folk, standing, table(raft, folk, standing)), told)

    def test_long_numbers(self):
        for reaches in ((5,) * 7, range(7), (3, 1, 4, 1, 5, 9, 2)):
            raft, folk, standing = seven(reaches)
            told = table(raft, folk, standing)
            self.assertEqual(shown(raft, folk, standing, told), lots(raft, folk, standing))

    def test_one_gap_greater_less_or_none(self):
        for raft, folk, standing in list(crossings())[::3]:
            told = table(raft, folk, standing)
            for at, (lot, gap) in enumerate(told):
                if gap is None:
                    # More may be shown than can, so long as what follows from it is shown too.
                    changed = [(0, 1), (1, 3), (10 ** 39, 1)]
                else:
                    changed = [pair(frac(gap) + TINY), pair(max(0, frac(gap) - TINY)), (0, 1), None]
                for other in changed:
                    rows = with_gap(told, at, other)
                    due = [each for each, its in rows if its is not None]
                    if not is_table(raft, folk, standing, rows):
                        due = None
                    self.assertEqual(shown(raft, folk, standing, rows), due, (raft, folk, standing, rows))

    def test_gap_of_the_empty_lot(self):
        for gap in (None, (3 * 10 ** 38 + 1, 10 ** 38), (7, 2)):
            self.none_of([with_gap(TWO_TABLE, 0, gap)])
        # Nearer than it is, all must be shown to get ashore.
        self.none_of([with_gap(TWO_TABLE, 0, (0, 1))])
        all_shown = tuple((lot, (0, 1)) for lot in subsets(TWO))
        self.assertEqual(self.of_two(all_shown), subsets(TWO))

    def test_one_gap_of_two(self):
        self.assertEqual(self.of_two(TWO_TABLE), [(), ("ann",)])
        self.none_of([with_gap(TWO_TABLE, 1, gap) for gap in ((7, 2), (24 * 10 ** 38 + 1, 7 * 10 ** 38), None, (0, 1))])
        self.assertEqual(self.of_two(with_gap(TWO_TABLE, 1, (23, 7))), [(), ("ann",)])
        # bob may be shown though he can't, but where ann could follow him then, both must be shown.
        self.none_of([with_gap(TWO_TABLE, 3, gap) for gap in ((0, 1), (2, 1))])
        self.assertEqual(self.of_two(with_gap(TWO_TABLE, 3, (3, 1))), [(), ("ann",), ("bob",)])
        both = with_gap(with_gap(TWO_TABLE, 3, (9, 1)), 2, (50, 1))
        self.assertEqual(self.of_two(both), subsets(TWO))

    def test_just_at_what_is_asked(self):
        # 110 of 200 at the back bring 21/5 to just the reach, for ann; cy has more behind, bob has less.
        standing = ((21, 5), FRONT)
        told = table(RAFT, THREE, standing)
        self.assertEqual([lot for lot, gap in told if gap is not None], [(), ("ann",), ("cy",)])
        self.assertEqual(shown(RAFT, THREE, standing, told), [(), ("ann",), ("cy",)])
        nearer = with_gap(told, 0, (19, 5))
        self.assertIsNone(shown(RAFT, THREE, standing, nearer))

    def test_fractions_that_are_none(self):
        for wrong in ((6, 2), (0, 2), (-1, 1), (1, 0), (1, -1), [3, 1], (3,), (3, 1, 1), 3, 0, "3", True, (True, 1),
                      (1, True), (3.0, 1), (), ((3, 1),), False, "", []):
            self.none_of([with_gap(TWO_TABLE, at, wrong) for at in range(4)])
        self.none_of([with_gap(TWO_TABLE, 3, thing) for thing in ANYTHING if thing is not None])

    def test_a_lot_too_few_or_too_many(self):
        self.none_of([TWO_TABLE[:at] + TWO_TABLE[at + 1:] for at in range(4)])
        self.none_of([TWO_TABLE + (more,) for more in ((("bob",), None), (("cy",), None), (("cy",), (9, 1)), None, ())])
        self.none_of([(), TWO_TABLE[:1], TWO_TABLE * 2])

    def test_a_lot_of_others(self):
        self.none_of([TWO_TABLE[:3] + ((("cy",), None),), TWO_TABLE[:3] + ((("bobb",), None),)])
        self.none_of([TWO_TABLE[:3] + ((lot, None),) for lot in ANYTHING])
        self.assertIsNone(shown(RAFT, THREE, ((3, 1), FRONT), TWO_TABLE))

    def test_out_of_order(self):
        first, ann, both, bob = TWO_TABLE
        self.none_of([(first, ann, bob, both), (ann, first, both, bob), (bob, both, ann, first)])
        self.none_of([(first, ann, (("bob", "ann"), None), bob)])

    def test_twice(self):
        first, ann, both, bob = TWO_TABLE
        self.none_of([(first, ann, ann, bob), (first, first, ann, both), (first, ann, both, bob, bob)])
        self.none_of([(first, ann, (("ann", "ann"), None), bob)])

    def test_lists_for_tuples(self):
        first, ann, both, bob = TWO_TABLE
        self.none_of([list(TWO_TABLE), (list(first), ann, both, bob), ([(), (3, 1)], ann, both, bob)])
        self.none_of([(([], (3, 1)), ann, both, bob), (first, (["ann"], (24, 7)), both, bob)])
        self.none_of([(((), [3, 1]), ann, both, bob)])

    def test_rows_that_are_no_pairs(self):
        first, ann, both, bob = TWO_TABLE
        self.none_of([(first, ann, both, wrong) for wrong in (("bob",), (("bob",),), (("bob",), None, None), "bob", None)])
        self.none_of([(first, ann, both, ("bob", None)), (first, ann, both, (None, ("bob",)))])
        self.none_of([(first, ann, both, thing) for thing in ANYTHING])

    def test_anything(self):
        self.none_of(ANYTHING)
        self.none_of([nested(18, kind, TWO_TABLE) for kind in (list, tuple)] + [mixed(6, TWO_TABLE), (None,) * 4])

    def test_kinds_and_by_name(self):
        told = shown(thing=TWO_TABLE, standing=TWO_AT, folk=TWO, raft=RAFT)
        self.assertEqual(told, [(), ("ann",)])
        self.assertEqual([type(told)] + [type(lot) for lot in told], [list, tuple, tuple])


class MustStay(unittest.TestCase):
    def test_unlike(self):
        self.assertIsNone(must_stay(RAFT, TWO, TWO_AT))
        self.assertIsNone(must_stay(RAFT, THREE[:2] + (("cy", 40, 3),), ((0, 1), FRONT)))
        self.assertIsNone(must_stay(*IN_ONE_ORDER))

    def test_at_the_reach_below_and_above(self):
        self.assertEqual(must_stay(RAFT, THREE, ((2, 1), FRONT)), (0, 1))
        self.assertEqual(must_stay(RAFT, THREE, ((1, 1), FRONT)), (0, 1))
        self.assertEqual(must_stay(RAFT, THREE, ((0, 1), FRONT)), (0, 1))
        self.assertEqual(must_stay(RAFT, THREE, ((2 * 10 ** 30 + 1, 10 ** 30), FRONT)), (1, 2 * 10 ** 28))
        self.assertEqual(must_stay(RAFT, THREE, ((21, 5), FRONT)), (110, 1))
        self.assertEqual(must_stay((3, 40), THREE, ((3, 1), FRONT)), (200, 3))

    def test_the_front_gap_counts(self):
        # 160 by 2 of 200 in all: the front gap is 8/5 more.
        self.assertEqual(must_stay(RAFT, THREE, ((1, 2), ((2, 1), (2, 1), (2, 1)))), (5, 1))

    def test_one_alone_and_more_than_all_weigh(self):
        self.assertEqual(must_stay(RAFT, TWO[:1], ((2, 1), FRONT[:1])), (0, 1))
        self.assertEqual(must_stay(RAFT, TWO[:1], ((100, 1), FRONT[:1])), (2450, 1))

    def test_reach_nought(self):
        self.assertEqual(must_stay(RAFT, (("a", 10, 0),), ((0, 1), FRONT[:1])), (0, 1))
        self.assertEqual(must_stay(RAFT, (("a", 10, 0),), ((1, 50), FRONT[:1])), (1, 4))

    def check(self, raft, folk, standing):
        """Just () and the lots whose staying ones weigh enough can, in any order."""
        need = frac(must_stay(raft, folk, standing))
        told = lots(raft, folk, standing)
        for lot in subsets(folk):
            stay = sum(one[1] for one in folk if one[0] not in lot)
            can = lot == () or stay >= need
            self.assertEqual(lot in told, can, (raft, folk, standing, lot))
            number = 1
            for many in range(len(lot)):
                number *= many + 1
            self.assertEqual(orders(raft, folk, standing, lot), (number, lot) if can else (0, None))

    def test_just_those_lots_can(self):
        for raft in RAFTS + [(4, 40), (12, 90)]:
            for reach in (0, 2, 7):
                for folk in FOLKS + [THREE]:
                    alike = tuple((name, heavy, reach) for name, heavy, other in folk)
                    for top in (0, 1, 2, 3, 5, 8, 13):
                        places = tuple(pair(Fraction(k, 4)) for k, one in enumerate(alike))
                        self.check(raft, alike, (pair(Fraction(top, 2)), places))
        for top in (0, 4, 7, 10):
            self.check(*seven((4,) * 7, (top, 1)))

    def test_just_enough_stay(self):
        told = must_stay(RAFT, THREE, ((3, 1), FRONT))
        self.assertEqual(told, (50, 1))
        self.assertIn(("bob", "cy"), lots(RAFT, THREE, ((3, 1), FRONT)))
        self.assertNotIn(("bob", "cy"), lots(RAFT, THREE, ((3 * 10 ** 38 + 1, 10 ** 38), FRONT)))

    def test_by_name(self):
        self.assertEqual(must_stay(standing=((21, 5), FRONT), folk=THREE, raft=RAFT), (110, 1))

    def test_nobody_left(self):
        self.assertIsNone(must_stay(RAFT, (), ((5, 2), ())))


if __name__ == "__main__":
    unittest.main()

"""Point 5: the gap behind any walks, the least and the greatest one."""

import unittest
from fractions import Fraction

from raftwalk.standings import gap_behind, gaps
from tests.helper import GAPS, RAFTS, SEVEN, cases, frac, gap_by_middle, grid, pair

RAFT = (4, 40)
ANN = (("ann", 60, 2),)
TWO = (("ann", 60, 2), ("bob", 100, 0))
FRONT = ((0, 1), (0, 1))


def front_and_back(folk, raft):
    return tuple((0, 1) for _ in folk), tuple((raft[0], 1) for _ in folk)


class GapBehind(unittest.TestCase):
    def test_whole(self):
        # 100 in all: 60 times 1 2/3 farther back drives the raft forward by 1.
        self.assertEqual(gap_behind(RAFT, ANN, ((5, 1), ((0, 1),)), ((5, 3),)), (4, 1))

    def test_fraction_in_lowest_terms(self):
        self.assertEqual(gap_behind(RAFT, ANN, ((5, 1), ((0, 1),)), ((1, 1),)), (22, 5))
        self.assertEqual(gap_behind(RAFT, TWO, ((5, 1), FRONT), ((1, 2), (1, 3))), (281, 60))

    def test_walking_forward_makes_it_greater(self):
        self.assertEqual(gap_behind(RAFT, ANN, ((5, 1), ((4, 1),)), ((0, 1),)), (37, 5))

    def test_exactly_nought(self):
        self.assertEqual(gap_behind(RAFT, ANN, ((12, 5), ((0, 1),)), ((4, 1),)), (0, 1))
        self.assertEqual(gap_behind(RAFT, ANN, ((0, 1), ((2, 1),)), ((2, 1),)), (0, 1))

    def test_less_than_nought(self):
        self.assertIsNone(gap_behind(RAFT, ANN, ((0, 1), ((0, 1),)), ((1, 10 ** 39),)))
        self.assertIsNone(gap_behind(RAFT, ANN, ((2, 1), ((0, 1),)), ((4, 1),)))
        self.assertIsNone(gap_behind(RAFT, ANN, ((12 * 10 ** 30 - 1, 5 * 10 ** 30), ((0, 1),)), ((4, 1),)))

    def test_walks_that_even_out(self):
        self.assertEqual(gap_behind((4, 1), (("a", 2, 0), ("b", 3, 0)), ((1, 3), ((3, 1), (0, 1))), FRONT[:1] + ((2, 1),)), (1, 3))

    def test_standing_where_they_stood(self):
        for raft, folk, standing in cases():
            self.assertEqual(gap_behind(raft, folk, standing, standing[1]), standing[0])

    def test_common_middle_stays(self):
        for raft, folk, standing in cases():
            for places in front_and_back(folk, raft) + (standing[1][::-1],):
                due = gap_by_middle(raft, folk, standing, places)
                told = gap_behind(raft, folk, standing, places)
                self.assertEqual(told, None if due < 0 else pair(due), (raft, folk, standing, places))

    def test_common_middle_stays_on_a_grid(self):
        raft, folk = (7, 3), (("a", 1, 1), ("b", 7, 3), ("c", 200, 9))
        for gap in GAPS:
            standing = (gap, ((7, 2), (1, 3), (13, 7)))
            for places in grid(raft, folk, 4):
                due = gap_by_middle(raft, folk, standing, places)
                self.assertEqual(gap_behind(raft, folk, standing, places), None if due < 0 else pair(due))

    def test_one_by_one_is_as_at_once(self):
        raft, places = (4, 10), tuple(pair(Fraction(k, 3)) for k in range(7))
        start = ((40, 1), tuple((1, 1) for _ in SEVEN))
        at_once = gap_behind(raft, SEVEN, start, places)
        for order in (range(7), range(6, -1, -1), (3, 1, 6, 0, 2, 5, 4)):
            standing = start
            for at in order:
                there = standing[1][:at] + (places[at],) + standing[1][at + 1:]
                standing = (gap_behind(raft, SEVEN, standing, there), there)
            self.assertEqual(standing, (at_once, places))

    def test_long_numbers_told_may_be_handed_in_again(self):
        raft, places = (1000, 997), tuple((1, 10 ** 39 + 2 * k + 1) for k in range(7))
        start = ((500, 1), tuple((0, 1) for _ in SEVEN))
        gap = gap_behind(raft, SEVEN, start, places)
        self.assertEqual(frac(gap), gap_by_middle(raft, SEVEN, start, places))
        self.assertEqual(gap_behind(raft, SEVEN, (gap, places), start[1]), (500, 1))

    def test_by_name(self):
        standing = ((5, 1), ((0, 1),))
        self.assertEqual(gap_behind(places=((1, 1),), standing=standing, folk=ANN, raft=RAFT), (22, 5))


class Gaps(unittest.TestCase):
    def test_plain(self):
        self.assertEqual(gaps(RAFT, ANN, ((5, 1), ((1, 1),))), ((16, 5), (28, 5)))
        self.assertEqual(gaps(RAFT, TWO, ((5, 1), ((4, 1), (4, 1)))), ((5, 1), (41, 5)))
        self.assertEqual(gaps(RAFT, TWO, ((5, 1), FRONT)), ((9, 5), (5, 1)))

    def test_least_is_just_nought(self):
        self.assertEqual(gaps(RAFT, ANN, ((12, 5), ((0, 1),))), ((0, 1), (12, 5)))

    def test_least_would_be_below_nought(self):
        self.assertEqual(gaps(RAFT, ANN, ((2, 1), ((0, 1),))), ((0, 1), (2, 1)))
        self.assertEqual(gaps(RAFT, ANN, ((0, 1), ((0, 1),))), ((0, 1), (0, 1)))

    def test_least_is_just_above_nought(self):
        self.assertEqual(gaps(RAFT, ANN, ((12 * 10 ** 30 + 1, 5 * 10 ** 30), ((0, 1),)))[0], (1, 5 * 10 ** 30))

    def test_kinds(self):
        told = gaps(RAFT, ANN, ((5, 1), ((1, 1),)))
        self.assertIsInstance(told, tuple)
        self.assertTrue(all(isinstance(gap, tuple) and len(gap) == 2 for gap in told))

    def test_by_the_middle(self):
        for raft, folk, standing in cases():
            front, back = front_and_back(folk, raft)
            least = max(Fraction(0), gap_by_middle(raft, folk, standing, back))
            most = gap_by_middle(raft, folk, standing, front)
            self.assertEqual(gaps(raft, folk, standing), (pair(least), pair(most)), (raft, folk, standing))

    def test_no_places_go_beyond(self):
        folk = TWO
        for raft in RAFTS:
            for gap in GAPS:
                standing = (gap, ((1, 2), (1, 1)))
                least, most = gaps(raft, folk, standing)
                told = [gap_behind(raft, folk, standing, places) for places in grid(raft, folk, 6)]
                found = [frac(each) for each in told if each is not None]
                self.assertTrue(all(frac(least) <= each <= frac(most) for each in found))
                self.assertEqual(max(found), frac(most))
                if None not in told:
                    self.assertEqual(min(found), frac(least))

    def test_walking_changes_neither(self):
        raft, folk = (6, 100), TWO
        standing = ((9, 2), ((1, 3), (5, 1)))
        for places in grid(raft, folk, 4):
            there = gap_behind(raft, folk, standing, places)
            if there is not None:
                self.assertEqual(gaps(raft, folk, (there, places)), gaps(raft, folk, standing))

    def test_by_name(self):
        self.assertEqual(gaps(standing=((5, 1), ((1, 1),)), raft=RAFT, folk=ANN), ((16, 5), (28, 5)))


class Measures(unittest.TestCase):
    def test_weights_so_many_times_as_great_change_nothing(self):
        standing = ((5, 2), ((1, 1), (1, 2)))
        light, heavy = (("a", 3, 1), ("b", 5, 2)), (("a", 21, 1), ("b", 35, 2))
        self.assertEqual(gaps((4, 10), light, standing), gaps((4, 70), heavy, standing))
        for places in grid((4, 10), light, 4):
            self.assertEqual(gap_behind((4, 10), light, standing, places), gap_behind((4, 70), heavy, standing, places))

    def test_lengths_so_many_times_as_great_change_themselves(self):
        folk = (("a", 3, 1), ("b", 5, 2))
        small, great = ((5, 2), ((1, 1), (1, 2))), ((15, 2), ((3, 1), (3, 2)))
        told = [pair(3 * frac(gap)) for gap in gaps((4, 10), folk, small)]
        self.assertEqual(gaps((12, 10), folk, great), tuple(told))


if __name__ == "__main__":
    unittest.main()

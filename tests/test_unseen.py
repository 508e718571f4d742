"""Point 12: the weight of somebody of whom it isn't known."""

import unittest
from fractions import Fraction

from raftwalk.standings import gap_behind
from raftwalk.unseen import unseen
from tests.helper import FIVE, FRONT, SEVEN, THREE, cases, crossings, frac, grid, names, pair

RAFT = (4, 40)
TWO = (("ann", 60, 2), ("bob", 100, 0))
TWO_AT = ((3, 1), FRONT[1:])


def instead(folk, name, heavy):
    """The folk with another weight for the one of the name."""
    return tuple((each, heavy if each == name else own, reach) for each, own, reach in folk)


def driven_so(raft, folk, standing, places, gap):
    """Whether the gap is so behind the walk, the weights being fractions."""
    whole = raft[1] + sum(one[1] for one in folk)
    moment = sum(one[1] * (frac(new) - frac(old)) for one, old, new in zip(folk, standing[1], places))
    return whole * (frac(standing[0]) - frac(gap)) == moment


class Weights(unittest.TestCase):
    def test_two(self):
        # 60 by 4 and bob by 2: 3 less 11/5 by (240 + 200) of 200 in all.
        self.assertEqual(unseen(RAFT, TWO, TWO_AT, "bob", ((4, 1), (2, 1)), (4, 5)), (100, 1))
        self.assertEqual(unseen(RAFT, TWO, TWO_AT, "ann", ((4, 1), (2, 1)), (4, 5)), (60, 1))

    def test_a_fraction(self):
        # (40 + 60 + x) times 1 is 60 times 1 and x times 3.
        self.assertEqual(unseen(RAFT, TWO, TWO_AT, "bob", ((1, 1), (3, 1)), (2, 1)), (20, 1))
        # (40 + 100 + x) times 1 is 100 times 1/3 and x times 4.
        self.assertEqual(unseen(RAFT, TWO, TWO_AT, "ann", ((4, 1), (1, 3)), (2, 1)), (320, 9))

    def test_walking_forward(self):
        standing = ((1, 1), ((3, 1), (2, 1)))
        self.assertEqual(unseen(RAFT, TWO, standing, "bob", ((3, 1), (0, 1)), (2, 1)), (100, 1))

    def test_others_walk_and_this_one_does_not(self):
        # (40 + 60 + x) times 1 is 60 times 4.
        self.assertEqual(unseen(RAFT, TWO, TWO_AT, "bob", ((4, 1), (0, 1)), (2, 1)), (140, 1))

    def test_one_alone(self):
        self.assertEqual(unseen(RAFT, TWO[:1], ((3, 1), ((0, 1),)), "ann", ((4, 1),), (3, 5)), (60, 1))

    def test_a_weight_beyond_what_folk_may_have(self):
        self.assertEqual(unseen(RAFT, TWO[:1], ((3, 1), ((0, 1),)), "ann", ((4, 1),), (1, 10 ** 39)),
                         pair(Fraction(40 * (3 * 10 ** 39 - 1), 10 ** 39 + 1)))
        self.assertEqual(unseen(RAFT, TWO[:1], ((3, 1), ((0, 1),)), "ann", ((4, 1),), (3 * 10 ** 38 - 1, 10 ** 38)),
                         (40, 4 * 10 ** 38 - 1))

    def test_own_weights_come_back(self):
        for raft, folk, standing in list(cases())[::5] + list(crossings())[::2]:
            places = tuple(pair(Fraction(raft[0], k + 1)) for k in range(len(folk)))
            gap = gap_behind(raft, folk, standing, places)
            if gap is None:
                continue
            for at, (name, heavy, reach) in enumerate(folk):
                due = (heavy, 1)
                if frac(standing[0]) - frac(gap) == frac(places[at]) - frac(standing[1][at]):
                    due = "any"
                for other in (heavy, 1, 200, 77):
                    told = unseen(raft, instead(folk, name, other), standing, name, places, gap)
                    self.assertEqual(told, due, (raft, folk, standing, name, places, gap))

    def test_what_stands_there_is_not_looked_at(self):
        for other in (1, 200, 0, -5, None, "heavy"):
            folk = instead(TWO, "bob", other)
            self.assertEqual(unseen(RAFT, folk, TWO_AT, "bob", ((4, 1), (2, 1)), (4, 5)), (100, 1))

    def test_by_the_told_weight_it_is_so(self):
        found = set()
        for name in names(THREE):
            for places in grid(RAFT, THREE, 3):
                for top in range(0, 9):
                    standing, gap = ((3, 1), ((0, 1), (4, 3), (8, 3))), pair(Fraction(top, 2))
                    told = unseen(RAFT, THREE, standing, name, places, gap)
                    some = [Fraction(1, 10 ** 9), Fraction(1), Fraction(77, 3), Fraction(10 ** 9)]
                    right = [driven_so(RAFT, instead(THREE, name, each), standing, places, gap) for each in some]
                    if told == "any":
                        self.assertTrue(all(right))
                    elif told is None:
                        self.assertFalse(any(right))
                    else:
                        self.assertGreater(told[0], 0)
                        self.assertEqual(told, pair(frac(told)))
                        self.assertTrue(driven_so(RAFT, instead(THREE, name, frac(told)), standing, places, gap))
                        self.assertFalse(all(right))
                    found.add("weight" if isinstance(told, tuple) else told)
        self.assertEqual(found, {"weight", "any", None})

    def test_seven_with_long_numbers(self):
        raft = (1000, 997)
        start = ((500, 1), tuple((1, 10 ** 39 + 2 * k + 1) for k in range(7)))
        places = tuple(pair(Fraction(10 ** 39, 10 ** 38 + 2 * k + 1)) for k in range(7))
        gap = gap_behind(raft, SEVEN, start, places)
        for name, heavy, reach in SEVEN:
            self.assertEqual(unseen(raft, instead(SEVEN, name, 1), start, name, places, gap), (heavy, 1))

    def test_by_name(self):
        told = unseen(gap=(4, 5), places=((4, 1), (2, 1)), name="bob", standing=TWO_AT, folk=TWO, raft=RAFT)
        self.assertEqual(told, (100, 1))


class Any(unittest.TestCase):
    def test_nobody_walks(self):
        for name in ("ann", "bob"):
            self.assertEqual(unseen(RAFT, TWO, TWO_AT, name, TWO_AT[1], (3, 1)), "any")

    def test_others_even_out_and_this_one_stands(self):
        folk, standing = (("a", 2, 0), ("b", 3, 0), ("c", 9, 0)), ((1, 3), ((3, 1), (0, 1), (1, 1)))
        self.assertEqual(unseen((4, 1), folk, standing, "c", ((0, 1), (2, 1), (1, 1)), (1, 3)), "any")

    def test_this_one_keeps_beside_the_pier(self):
        # The raft comes nearer by 1, and ann goes back by 1 on it: bob's 100 by 7/5 drive 140.
        self.assertEqual(unseen(RAFT, TWO, TWO_AT, "ann", ((1, 1), (7, 5)), (2, 1)), "any")


class NoWeight(unittest.TestCase):
    def test_nobody_walks_but_the_gap_is_another(self):
        for gap in ((2, 1), (4, 1), (3 * 10 ** 38 + 1, 10 ** 38)):
            self.assertIsNone(unseen(RAFT, TWO, TWO_AT, "ann", TWO_AT[1], gap))

    def test_this_one_keeps_beside_the_pier_but_others_do_not_drive_so_far(self):
        self.assertIsNone(unseen(RAFT, TWO, TWO_AT, "ann", ((1, 1), (2, 1)), (2, 1)))
        self.assertIsNone(unseen(RAFT, TWO, TWO_AT, "ann", ((1, 1), (1, 1)), (2, 1)))

    def test_it_would_be_nought(self):
        # 60 of 100 without bob bring it nearer by 12/5 already.
        self.assertIsNone(unseen(RAFT, TWO, TWO_AT, "bob", ((4, 1), (4, 1)), (3, 5)))
        self.assertEqual(unseen(RAFT, TWO, TWO_AT, "bob", ((4, 1), (4, 1)), (1, 2)), (20, 3))

    def test_it_would_be_below_nought(self):
        self.assertIsNone(unseen(RAFT, TWO, TWO_AT, "bob", ((4, 1), (4, 1)), (4, 5)))
        self.assertIsNone(unseen(RAFT, TWO, TWO_AT, "bob", ((1, 1), (3, 1)), (29, 10)))
        self.assertIsNone(unseen(RAFT, TWO, TWO_AT, "bob", ((4, 1), (0, 1)), (1, 2)))

    def test_farther_than_anybody_could_drive_it(self):
        self.assertIsNone(unseen(RAFT, TWO[:1], ((9, 1), ((0, 1),)), "ann", ((4, 1),), (5, 1)))
        self.assertIsNone(unseen(RAFT, TWO[:1], ((9, 1), ((0, 1),)), "ann", ((4, 1),), (4, 1)))

    def test_just_below_the_farthest(self):
        told = unseen(RAFT, TWO[:1], ((9, 1), ((0, 1),)), "ann", ((4, 1),), (5 * 10 ** 38 + 1, 10 ** 38))
        self.assertEqual(told, (40 * (4 * 10 ** 38 - 1), 1))

    def test_a_name_of_nobody(self):
        self.assertIsNone(unseen(RAFT, FIVE, ((3, 1), ((0, 1),) * 5), "zoe", ((1, 1),) * 5, (2, 1)))


if __name__ == "__main__":
    unittest.main()

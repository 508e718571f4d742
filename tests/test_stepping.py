"""Points 6 and 7: who can step off, how all should stand, and what is left."""

import unittest
from fractions import Fraction

from raftwalk.standings import are_folk, gap_behind, gaps, is_standing
from raftwalk.stepping import can_step, places_for, stepped
from tests.helper import FRONT, GAPS, RAFTS, SEVEN, THREE, cases, frac, gap_by_middle, grid, names, pair

RAFT = (4, 40)


def least_for(raft, folk, standing, at):
    """The signed gap with this one at the front and all others at the back."""
    places = tuple((0, 1) if k == at else (raft[0], 1) for k in range(len(folk)))
    return gap_by_middle(raft, folk, standing, places)


class CanStep(unittest.TestCase):
    def test_nobody(self):
        self.assertEqual(can_step(RAFT, THREE, ((100, 1), FRONT)), [])

    def test_all(self):
        self.assertEqual(can_step(RAFT, THREE, ((2, 1), FRONT)), ["ann", "bob", "cy"])
        self.assertEqual(can_step(RAFT, THREE, ((0, 1), FRONT)), ["ann", "bob", "cy"])

    def test_some(self):
        # 200 in all: ann's others bring it nearer by 11/5, bob's by 9/5, cy's by 12/5.
        self.assertEqual(can_step(RAFT, THREE, ((19, 5), FRONT)), ["ann", "bob", "cy"])
        self.assertEqual(can_step(RAFT, THREE, ((191, 50), FRONT)), ["ann", "cy"])
        self.assertEqual(can_step(RAFT, THREE, ((21, 5), FRONT)), ["ann", "cy"])
        self.assertEqual(can_step(RAFT, THREE, ((211, 50), FRONT)), ["cy"])
        self.assertEqual(can_step(RAFT, THREE, ((22, 5), FRONT)), ["cy"])
        self.assertEqual(can_step(RAFT, THREE, ((221, 50), FRONT)), [])

    def test_where_they_stand_does_not_matter_but_for_the_front_gap(self):
        self.assertEqual(can_step(RAFT, THREE, ((1, 1), ((4, 1), (4, 1), (4, 1)))), ["ann", "cy"])

    def test_one_alone(self):
        ann = THREE[:1]
        self.assertEqual(can_step(RAFT, ann, ((2, 1), ((0, 1),))), ["ann"])
        self.assertEqual(can_step(RAFT, ann, ((2 * 10 ** 38 + 1, 10 ** 38), ((0, 1),))), [])
        # Standing farther back, walking to the front drives the raft away.
        self.assertEqual(can_step(RAFT, ann, ((2, 1), ((1, 1),))), [])

    def test_reach_nought(self):
        folk = (("ann", 50, 0), ("bob", 70, 0), ("cy", 40, 0))
        self.assertEqual(can_step(RAFT, folk, ((0, 1), FRONT)), ["ann", "bob", "cy"])
        self.assertEqual(can_step(RAFT, folk, ((9, 5), FRONT)), ["ann", "bob", "cy"])
        self.assertEqual(can_step(RAFT, folk, ((12, 5), FRONT)), ["cy"])
        self.assertEqual(can_step(RAFT, folk, ((13, 5), FRONT)), [])
        self.assertEqual(can_step(RAFT, folk[:1], ((0, 1), ((0, 1),))), ["ann"])
        self.assertEqual(can_step(RAFT, folk[:1], ((1, 10 ** 39), ((0, 1),))), [])

    def test_the_others_reach_does_not_matter(self):
        folk = (("ann", 50, 100), ("bob", 70, 0))
        self.assertEqual(can_step(RAFT, folk, ((50, 1), ((0, 1), (0, 1)))), ["ann"])

    def test_just_those_whose_least_gap_is_within_reach(self):
        for raft, folk, standing in cases():
            due = [one[0] for at, one in enumerate(folk) if least_for(raft, folk, standing, at) <= one[2]]
            self.assertEqual(can_step(raft, folk, standing), due, (raft, folk, standing))

    def test_nobody_who_can_by_some_places_is_left_out(self):
        for raft in RAFTS:
            for gap in GAPS:
                standing = (gap, ((1, 1), (0, 1), (1, 2)))
                told = can_step(raft, THREE, standing)
                for places in grid(raft, THREE, 3):
                    there = gap_behind(raft, THREE, standing, places)
                    for one, place in zip(THREE, places):
                        if there is not None and place == (0, 1) and frac(there) <= one[2]:
                            self.assertIn(one[0], told)

    def test_a_list_and_by_name(self):
        told = can_step(standing=((2, 1), FRONT), folk=THREE, raft=RAFT)
        self.assertIs(type(told), list)
        self.assertEqual(told, ["ann", "bob", "cy"])

    def test_nobody_left(self):
        self.assertEqual(can_step(RAFT, (), ((2, 1), ())), [])


class PlacesFor(unittest.TestCase):
    def check(self, raft, folk, standing, name):
        """The told places are right, and no greater gap is within reach."""
        at = names(folk).index(name)
        told = places_for(raft, folk, standing, name)
        if least_for(raft, folk, standing, at) > folk[at][2]:
            self.assertIsNone(told, (raft, folk, standing, name))
            return
        there = gap_behind(raft, folk, standing, told)
        self.assertTrue(is_standing(raft, folk, (there, told)), (raft, folk, standing, name, told))
        self.assertEqual(told[at], (0, 1))
        greatest = min(Fraction(folk[at][2]), frac(gaps(raft, folk, standing)[1]))
        self.assertEqual(there, pair(greatest), (raft, folk, standing, name, told))

    def test_all_cases(self):
        for raft, folk, standing in cases():
            for name in names(folk):
                self.check(raft, folk, standing, name)

    def test_just_enough_and_just_too_little(self):
        enough, too_little = ((22, 5), FRONT), ((22 * 10 ** 30 + 1, 5 * 10 ** 30), FRONT)
        self.assertEqual(places_for(RAFT, THREE, enough, "cy"), ((4, 1), (4, 1), (0, 1)))
        self.assertIsNone(places_for(RAFT, THREE, too_little, "cy"))
        self.assertIsNone(places_for(RAFT, THREE, enough, "ann"))

    def test_front_gap_within_reach(self):
        # The greatest gap of all is the one with all at the front.
        self.assertEqual(places_for(RAFT, THREE, ((1, 1), FRONT), "bob"), FRONT)
        self.assertEqual(places_for(RAFT, THREE, ((2, 1), FRONT), "bob"), FRONT)

    def test_reach_nought(self):
        folk = (("ann", 50, 0), ("bob", 70, 0))
        for gap in ((0, 1), (1, 1), (7, 4), (5, 4)):
            for name in ("ann", "bob"):
                self.check(RAFT, folk, (gap, ((0, 1), (0, 1))), name)
        told = places_for(RAFT, folk, ((7, 4), ((0, 1), (0, 1))), "ann")
        self.assertEqual(gap_behind(RAFT, folk, ((7, 4), ((0, 1), (0, 1))), told), (0, 1))
        self.assertIsNone(places_for(RAFT, folk, ((7, 4), ((0, 1), (0, 1))), "bob"))

    def test_one_alone(self):
        ann = THREE[:1]
        self.assertEqual(places_for(RAFT, ann, ((2, 1), ((0, 1),)), "ann"), ((0, 1),))
        self.assertIsNone(places_for(RAFT, ann, ((3, 1), ((0, 1),)), "ann"))
        self.assertEqual(places_for(RAFT, ann, ((1, 1), ((1, 1),)), "ann"), ((0, 1),))

    def test_no_greater_gap_on_a_grid(self):
        raft, standing = (6, 100), ((3, 1), ((1, 1), (0, 1), (1, 2)))
        for at, one in enumerate(THREE):
            told = places_for(raft, THREE, standing, one[0])
            best = frac(gap_behind(raft, THREE, standing, told))
            for places in grid(raft, THREE, 6):
                there = gap_behind(raft, THREE, standing, places)
                if places[at] == (0, 1) and there is not None and frac(there) <= one[2]:
                    self.assertLessEqual(frac(there), best)

    def test_told_just_for_those_who_can(self):
        for raft, folk, standing in cases():
            told = [name for name in names(folk) if places_for(raft, folk, standing, name) is not None]
            self.assertEqual(told, can_step(raft, folk, standing))

    def test_by_name(self):
        self.assertEqual(places_for(name="bob", standing=((1, 1), FRONT), folk=THREE, raft=RAFT), FRONT)


class Stepped(unittest.TestCase):
    def test_gap_equal_to_the_reach_and_just_beyond(self):
        ann, bob, cy = THREE
        places = ((1, 3), (0, 1), (7, 2))
        due = ((ann, cy), ((2, 1), ((1, 3), (7, 2))))
        self.assertEqual(stepped(RAFT, THREE, ((2, 1), places), "bob"), due)
        self.assertIsNone(stepped(RAFT, THREE, ((2 * 10 ** 38 + 1, 10 ** 38), places), "bob"))
        self.assertIsNone(stepped(RAFT, THREE, ((3, 1), places), "bob"))

    def test_not_at_the_front(self):
        self.assertIsNone(stepped(RAFT, THREE, ((0, 1), ((1, 3), (0, 1), (7, 2))), "ann"))
        self.assertIsNone(stepped(RAFT, THREE, ((0, 1), ((1, 3), (0, 1), (7, 2))), "cy"))
        self.assertIsNone(stepped(RAFT, THREE, ((0, 1), ((1, 10 ** 39), (0, 1), (0, 1))), "ann"))

    def test_each_of_several_at_the_front(self):
        for at, one in enumerate(THREE):
            due = (THREE[:at] + THREE[at + 1:], ((1, 2), FRONT[1:]))
            self.assertEqual(stepped(RAFT, THREE, ((1, 2), FRONT), one[0]), due)

    def test_last_one(self):
        self.assertEqual(stepped(RAFT, THREE[:1], ((2, 1), ((0, 1),)), "ann"), ((), ((2, 1), ())))
        self.assertIsNone(stepped(RAFT, THREE[:1], ((3, 1), ((0, 1),)), "ann"))
        self.assertIsNone(stepped(RAFT, THREE[:1], ((1, 1), ((1, 1),)), "ann"))

    def test_reach_nought(self):
        folk = (("ann", 50, 0), ("bob", 70, 0))
        self.assertEqual(stepped(RAFT, folk, ((0, 1), ((0, 1), (1, 1))), "ann"), (folk[1:], ((0, 1), ((1, 1),))))
        self.assertIsNone(stepped(RAFT, folk, ((1, 10 ** 39), ((0, 1), (1, 1))), "ann"))

    def test_own_reach_counts_not_the_others(self):
        folk = (("ann", 50, 1), ("bob", 70, 9))
        standing = ((5, 1), ((0, 1), (0, 1)))
        self.assertIsNone(stepped(RAFT, folk, standing, "ann"))
        self.assertEqual(stepped(RAFT, folk, standing, "bob"), (folk[:1], ((5, 1), ((0, 1),))))

    def test_all_cases(self):
        for raft, folk, (gap, places) in cases():
            for at, (name, heavy, reach) in enumerate(folk):
                told = stepped(raft, folk, (gap, places), name)
                if places[at] == (0, 1) and frac(gap) <= reach:
                    rest = folk[:at] + folk[at + 1:]
                    self.assertEqual(told, (rest, (gap, places[:at] + places[at + 1:])))
                    self.assertTrue(is_standing(raft, rest, told[1]))
                    self.assertIs(are_folk(told[0]), rest != ())
                else:
                    self.assertIsNone(told)

    def test_by_the_told_places_they_step_off(self):
        for raft, folk, standing in cases():
            for name in can_step(raft, folk, standing):
                places = places_for(raft, folk, standing, name)
                gap = gap_behind(raft, folk, standing, places)
                self.assertIsNotNone(stepped(raft, folk, (gap, places), name))

    def test_one_after_another(self):
        folk, standing = SEVEN, ((0, 1), tuple((0, 1) for _ in SEVEN))
        for name in "dagbfce":
            folk, standing = stepped((5, 5), folk, standing, name)
            self.assertNotIn(name, names(folk))
        self.assertEqual((folk, standing), ((), ((0, 1), ())))

    def test_kinds_and_by_name(self):
        told = stepped(name="bob", standing=((1, 1), FRONT), folk=THREE, raft=RAFT)
        self.assertEqual(told, ((THREE[0], THREE[2]), ((1, 1), FRONT[1:])))
        for part in (told, told[0], told[1], told[1][0], told[1][1]):
            self.assertIs(type(part), tuple)

    def test_a_name_of_nobody_on_the_raft(self):
        self.assertIsNone(stepped(RAFT, THREE, ((0, 1), FRONT), "dan"))
        self.assertIsNone(stepped(RAFT, (), ((0, 1), ()), "ann"))
        self.assertIsNone(places_for(RAFT, THREE, ((0, 1), FRONT), "dan"))


if __name__ == "__main__":
    unittest.main()

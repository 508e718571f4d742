"""Point 13: a pond, deed by deed."""

import copy
import random
import unittest
from unittest import mock

from raftwalk.ashore import plan
from raftwalk.errors import Bumps, NoFolk, NoName, NoPlaces, NoRaft, NoStanding, NotFront, NothingLeft, RaftError, TooFar
from raftwalk.ponds import Pond
from raftwalk.standings import are_places, gap_behind
from raftwalk.stepping import stepped
from tests.helper import ANYTHING, FOLKS, FRONT, THREE, crossings, frac, grid, names, seven

RAFT = (4, 40)
AT_FRONT = ((2, 1), FRONT)
BACK = ((4, 1), (4, 1), (4, 1))
ANN, BOB, CY = THREE


def pond(standing=AT_FRONT, folk=THREE):
    return Pond(RAFT, folk, standing)


def state(one):
    return (one.folk(), one.standing(), one.ashore(), len(one), one.busy)


class Refusing(unittest.TestCase):
    def refused(self, kind, one, deed, *told):
        """The very refusal is raised, and all is as it was, for taking back as well."""
        before, twin = state(one), copy.deepcopy(one)
        with self.assertRaises(RaftError) as caught:
            getattr(one, deed)(*told)
        self.assertIs(type(caught.exception), kind, (deed, told))
        self.assertEqual(state(one), before)
        self.assertIs(one.busy, False)
        self.assertEqual(self.unwound(copy.deepcopy(one)), self.unwound(twin))
        return caught.exception

    def unwound(self, one):
        """All states back to the very first."""
        found = [state(one)]
        try:
            while True:
                one.back()
                found.append(state(one))
        except NothingLeft:
            return found


class Making(unittest.TestCase):
    def test_right_ones(self):
        for raft, folk, standing in crossings():
            one = Pond(raft, folk, standing)
            self.assertEqual(state(one), (folk, standing, [], len(folk), False))

    def refused(self, kind, *parts):
        with self.assertRaises(RaftError) as caught:
            Pond(*parts)
        self.assertIs(type(caught.exception), kind, repr(parts)[:200])

    def test_no_raft(self):
        for thing in ANYTHING + [(0, 1), (4, 1001), [4, 40], (4, 40, 1), (True, 40)]:
            self.refused(NoRaft, thing, THREE, AT_FRONT)

    def test_no_folk(self):
        for thing in ANYTHING + [(), list(THREE), THREE[::-1], THREE + (CY,), (("ann", 0, 2),), (["ann", 50, 2],)]:
            self.refused(NoFolk, RAFT, thing, AT_FRONT)

    def test_no_standing(self):
        for thing in ANYTHING + [
            ((2, 1), FRONT[1:]), ((2, 2), FRONT), [(2, 1), FRONT], ((2, 1), list(FRONT)), ((2, 1), ((5, 1),) + FRONT[1:]),
            ((-1, 1), FRONT), AT_FRONT + ((),),
        ]:
            self.refused(NoStanding, RAFT, THREE, thing)

    def test_the_one_told_first_goes_first(self):
        self.refused(NoRaft, None, None, None)
        self.refused(NoRaft, (0, 1), THREE[::-1], AT_FRONT)
        self.refused(NoRaft, (3, 0), THREE, None)
        self.refused(NoFolk, RAFT, (), ((2, 1), ()))
        self.refused(NoFolk, RAFT, None, None)
        for thing in ANYTHING:
            self.refused(NoRaft, thing, thing, thing)
            self.refused(NoFolk, RAFT, thing, thing)

    def test_by_name(self):
        one = Pond(standing=AT_FRONT, folk=THREE, raft=RAFT)
        one.walk(places=FRONT)
        one.step(name="bob")
        self.assertEqual(one.ashore(), ["bob"])

    def test_listed_methods_stand_in_the_class(self):
        for method in ("walk", "step", "back", "folk", "standing", "ashore", "__len__", "__eq__"):
            self.assertIn(method, vars(Pond))


class Walking(Refusing):
    def test_walks(self):
        one = pond()
        self.assertIsNone(one.walk(((0, 1), (1, 1), (0, 1))))
        self.assertEqual(state(one), (THREE, ((33, 20), ((0, 1), (1, 1), (0, 1))), [], 3, False))
        one.walk(((2, 1), (1, 1), (0, 1)))
        self.assertEqual(one.standing(), ((23, 20), ((2, 1), (1, 1), (0, 1))))
        one.walk(FRONT)
        self.assertEqual(one.standing(), AT_FRONT)

    def test_all_places_of_a_grid(self):
        one = pond()
        for places in grid(RAFT, THREE, 4):
            gap = gap_behind(RAFT, THREE, AT_FRONT, places)
            if gap is None:
                self.refused(Bumps, one, "walk", places)
            else:
                one.walk(places)
                self.assertEqual(one.standing(), (gap, places))
                one.back()

    def test_a_walk_by_which_nothing_changes_is_done(self):
        one = pond()
        one.walk(FRONT)
        self.assertEqual(state(one), state(pond()))
        one.back()
        self.refused(NothingLeft, one, "back")

    def test_to_just_nought_and_just_beyond(self):
        # 160 of 200 in all by 4 drive it by 16/5.
        one = pond(((16, 5), FRONT))
        one.walk(BACK)
        self.assertEqual(one.standing(), ((0, 1), BACK))
        self.refused(Bumps, pond(((16 * 10 ** 38 - 1, 5 * 10 ** 38), FRONT)), "walk", BACK)

    def test_no_places(self):
        one = pond()
        for thing in ANYTHING + [
            FRONT[1:], FRONT + FRONT[:1], list(FRONT), ([0, 1], (0, 1), (0, 1)), ((5, 1), (0, 1), (0, 1)), ((2, 2),) * 3,
            (0, 0, 0), ((0, 1), (0, 1), None), ((0, 1), (0, 1), (4 * 10 ** 38 + 1, 10 ** 38)), AT_FRONT,
        ]:
            self.refused(NoPlaces, one, "walk", thing)

    def test_no_places_goes_before_bumps(self):
        self.refused(NoPlaces, pond(((0, 1), FRONT)), "walk", ((4, 1), (4, 1), (5, 1)))
        self.refused(NoPlaces, pond(((0, 1), FRONT)), "walk", BACK + BACK)
        self.refused(Bumps, pond(((0, 1), FRONT)), "walk", BACK)

    def test_of_nobody(self):
        one = pond(((1, 1), ((0, 1),)), (ANN,))
        self.refused(NoPlaces, one, "walk", ())
        one.step("ann")
        self.assertIsNone(one.walk(()))
        self.assertEqual(state(one), ((), ((1, 1), ()), ["ann"], 0, False))
        for thing in [thing for thing in ANYTHING if thing != ()] + [((0, 1),)]:
            self.refused(NoPlaces, one, "walk", thing)
        one.back()
        self.assertEqual(one.ashore(), ["ann"])
        one.back()
        self.assertEqual(state(one), ((ANN,), ((1, 1), ((0, 1),)), [], 1, False))

    def test_those_left_have_fewer_places(self):
        one = pond()
        one.step("bob")
        self.refused(NoPlaces, one, "walk", FRONT)
        one.walk(FRONT[1:])
        self.assertEqual(one.folk(), (ANN, CY))


class Stepping(Refusing):
    def test_steps_to_the_last_one(self):
        one = pond()
        self.assertIsNone(one.step("bob"))
        self.assertEqual(state(one), ((ANN, CY), ((2, 1), FRONT[1:]), ["bob"], 2, False))
        one.step("ann")
        one.step("cy")
        self.assertEqual(state(one), ((), ((2, 1), ()), ["bob", "ann", "cy"], 0, False))
        self.refused(NoName, one, "step", "cy")

    def test_no_name(self):
        one = pond()
        for thing in [thing for thing in ANYTHING if thing != "ann"] + ["dan", "Bob", "bob ", ("bob",), ["bob"], ANN]:
            self.refused(NoName, one, "step", thing)
        one.step("ann")
        self.refused(NoName, one, "step", "ann")

    def test_not_front(self):
        one = pond(((0, 1), ((1, 1), (0, 1), (1, 10 ** 39))))
        self.refused(NotFront, one, "step", "ann")
        self.refused(NotFront, one, "step", "cy")
        one.step("bob")

    def test_too_far(self):
        for gap in ((2 * 10 ** 38 + 1, 10 ** 38), (3, 1), (7, 2), (10 ** 39, 7)):
            self.assertEqual(self.refused(TooFar, pond((gap, FRONT)), "step", "bob").gap, gap)

    def test_the_field_is_the_gap_then(self):
        one = pond(((3, 1), FRONT))
        one.walk(((0, 1), (0, 1), (1, 1)))
        self.assertEqual(self.refused(TooFar, one, "step", "ann").gap, (14, 5))

    def test_own_reach_counts(self):
        folk = (("ann", 50, 1), ("bob", 70, 9))
        one = Pond(RAFT, folk, ((5, 1), FRONT[1:]))
        self.refused(TooFar, one, "step", "ann")
        one.step("bob")
        self.assertEqual(one.folk(), folk[:1])

    def test_the_one_told_first_goes_first(self):
        far = pond(((9, 1), ((1, 1), (0, 1), (0, 1))))
        self.refused(NoName, far, "step", "dan")
        self.refused(NotFront, far, "step", "ann")
        self.refused(TooFar, far, "step", "bob")

    def test_through_the_told_plan(self):
        for raft, folk, standing in list(crossings()) + [seven((0, 1, 2, 3, 4, 5, 6), (3, 1))]:
            one, steps = Pond(raft, folk, standing), plan(raft, folk, standing)
            for places, name in steps:
                one.walk(places)
                one.step(name)
            self.assertEqual(one.ashore(), [name for places, name in steps])
            self.assertEqual(len(one), len(folk) - len(steps))


class Back(Refusing):
    def test_to_the_very_first_and_once_more(self):
        one = pond(((1, 1), FRONT))
        found = [state(one)]
        for deed, told in (("walk", ((0, 1), (0, 1), (1, 2))), ("step", "ann"), ("walk", FRONT[1:]), ("step", "cy"),
                           ("walk", ((1, 1),)), ("walk", ((0, 1),)), ("walk", ((0, 1),))):
            getattr(one, deed)(told)
            found.append(state(one))
        while len(found) > 1:
            self.assertEqual(state(one), found.pop())
            self.assertIsNone(one.back())
        self.assertEqual(state(one), found[0])
        self.refused(NothingLeft, one, "back")
        self.refused(NothingLeft, one, "back")
        one.walk(((1, 1), (0, 1), (0, 1)))
        one.back()
        self.assertEqual(state(one), found[0])

    def test_of_a_new_one(self):
        self.refused(NothingLeft, pond(), "back")

    def test_what_was_refused_is_not_taken_back(self):
        one = pond()
        one.step("ann")
        self.refused(NoName, one, "step", "ann")
        self.refused(NoPlaces, one, "walk", FRONT)
        one.back()
        self.refused(NothingLeft, one, "back")
        self.assertEqual(one, pond())

    def test_done_otherwise_behind_it(self):
        one = pond()
        one.step("ann")
        one.step("bob")
        one.back()
        one.step("cy")
        self.assertEqual(one.ashore(), ["ann", "cy"])
        one.back()
        one.back()
        self.assertEqual(state(one), state(pond()))


class Telling(unittest.TestCase):
    def test_kinds(self):
        one = pond()
        one.step("ann")
        self.assertEqual([type(one.folk()), type(one.standing()), type(one.ashore())], [tuple, tuple, list])
        self.assertEqual([type(each) for each in one.standing()], [tuple, tuple])

    def test_lists_are_the_askers_own(self):
        one = pond()
        one.ashore().append("zoe")
        self.assertEqual(one.ashore(), [])
        one.step("ann")
        first, other = one.ashore(), one.ashore()
        first.append("zoe")
        first[0] = "dan"
        self.assertEqual((other, one.ashore()), (["ann"], ["ann"]))
        one.step("bob")
        self.assertEqual((other, one.ashore()), (["ann"], ["ann", "bob"]))
        other.clear()
        one.back()
        self.assertEqual((other, one.ashore()), ([], ["ann"]))

    def test_told_before_stays_as_it_was(self):
        one = pond()
        folk, standing = one.folk(), one.standing()
        one.walk(((0, 1), (1, 1), (0, 1)))
        one.step("ann")
        self.assertEqual((folk, standing), (THREE, AT_FRONT))

    def test_ponds_do_not_share(self):
        one, other = pond(), pond()
        one.step("ann")
        self.assertEqual(state(other), (THREE, AT_FRONT, [], 3, False))

    def test_busy_between_calls(self):
        one = pond()
        self.assertIs(one.busy, False)
        for deed, told in (("walk", (FRONT,)), ("step", ("ann",)), ("back", ()), ("folk", ()), ("standing", ()), ("ashore", ())):
            getattr(one, deed)(*told)
            self.assertIs(one.busy, False, deed)
        for deed, told in (("walk", (None,)), ("walk", (BACK,)), ("step", ("zoe",)), ("step", (None,))):
            with self.assertRaises(RaftError):
                getattr(one, deed)(*told)
            self.assertIs(one.busy, False, deed)
        self.assertEqual((one == pond(), len(one)), (True, 3))
        self.assertIs(one.busy, False)


    def test_busy_within_a_deed(self):
        one, seen = pond(), []

        def looking(ask):
            return lambda *told: (seen.append(one.busy), ask(*told))[1]

        with mock.patch("raftwalk.ponds.gap_behind", looking(gap_behind)):
            one.walk(FRONT)
        with mock.patch("raftwalk.ponds.stepped", looking(stepped)):
            one.step("ann")
        self.assertEqual(seen, [True, True])


class Equality(unittest.TestCase):
    def same(self, one, other):
        self.assertIs(one == other, True)
        self.assertIs(other == one, True)
        self.assertIs(one != other, False)

    def unlike(self, one, other):
        self.assertIs(one == other, False)
        self.assertIs(other == one, False)
        self.assertIs(one != other, True)

    def test_same_deeds(self):
        one, other = pond(), pond()
        self.same(one, one)
        self.same(one, other)
        for deed, told in (("walk", ((0, 1), (1, 1), (0, 1))), ("step", "ann"), ("walk", FRONT[1:])):
            getattr(one, deed)(told)
            self.unlike(one, other)
            getattr(other, deed)(told)
            self.same(one, other)

    def test_other_deeds_to_the_same_end(self):
        one, other = pond(), pond()
        one.walk(((0, 1), (1, 1), (0, 1)))
        one.walk(FRONT)
        self.same(one, other)
        one.step("ann")
        one.back()
        self.same(one, other)

    def test_made_of_what_is_left_but_nobody_ashore(self):
        one = pond()
        one.step("ann")
        self.unlike(one, Pond(RAFT, (BOB, CY), ((2, 1), FRONT[1:])))

    def test_order_of_those_ashore_counts(self):
        one, other = pond(), pond()
        one.step("ann"), one.step("bob")
        other.step("bob"), other.step("ann")
        self.assertEqual((one.folk(), one.standing()), (other.folk(), other.standing()))
        self.unlike(one, other)

    def test_each_part_counts(self):
        one = pond()
        self.unlike(one, Pond((5, 40), THREE, AT_FRONT))
        self.unlike(one, Pond((4, 41), THREE, AT_FRONT))
        self.unlike(one, Pond(RAFT, (ANN, BOB, ("cy", 41, 2)), AT_FRONT))
        self.unlike(one, Pond(RAFT, (ANN, BOB, ("cy", 40, 1)), AT_FRONT))
        self.unlike(one, Pond(RAFT, (ANN, BOB, ("di", 40, 2)), AT_FRONT))
        self.unlike(one, Pond(RAFT, THREE, ((1, 1), FRONT)))
        self.unlike(one, Pond(RAFT, THREE, ((2, 1), ((1, 1), (0, 1), (0, 1)))))

    def test_nothing_else_equals_one(self):
        one = pond()
        for thing in ANYTHING + [THREE, AT_FRONT, (RAFT, THREE, AT_FRONT), [RAFT, THREE, AT_FRONT, []], Pond, {}, object()]:
            self.unlike(one, thing)
        for name in names(THREE):
            one.step(name)
        for thing in ANYTHING:
            self.unlike(one, thing)

    def test_with_nobody_left(self):
        one, other = pond(), pond()
        for name in ("cy", "ann", "bob"):
            one.step(name), other.step(name)
        self.same(one, other)
        self.assertEqual(len(one), 0)


class Roaming(Refusing):
    """Many deeds beside a plain list of states."""

    def due(self, raft, states, deed, told):
        """What comes of the deed: a refusal, or the states then."""
        folk, (gap, places), ashore = states[-1]
        if deed == "back":
            return NothingLeft if len(states) == 1 else states[:-1]
        if deed == "walk":
            if not are_places(raft, folk, told):
                return NoPlaces
            there = gap_behind(raft, folk, states[-1][1], told)
            return Bumps if there is None else states + [(folk, (there, told), ashore)]
        if told not in names(folk):
            return NoName
        at = names(folk).index(told)
        if places[at] != (0, 1):
            return NotFront
        if frac(gap) > folk[at][2]:
            return TooFar
        return states + [stepped(raft, folk, (gap, places), told) + (ashore + [told],)]

    def test_many_deeds(self):
        chance, seen = random.Random(20), set()
        for folk in FOLKS[1:] + [THREE]:
            standing = ((5, 2), tuple((0, 1) for _ in folk))
            one, states = Pond(RAFT, folk, standing), [(folk, standing, [])]
            for _ in range(400):
                deed = chance.choice(("walk", "walk", "walk", "step", "step", "back"))
                many = len(one) if chance.random() < 0.95 else len(one) + 1
                told = tuple(chance.choice(((0, 1), (0, 1), (1, 2), (4, 1), (7, 3))) for _ in range(many))
                if deed == "step":
                    told = chance.choice(names(folk) + ["zoe"])
                due = self.due(RAFT, states, deed, told)
                handed = () if deed == "back" else (told,)
                if isinstance(due, list):
                    self.assertIsNone(getattr(one, deed)(*handed))
                    states = due
                else:
                    self.refused(due, one, deed, *handed)
                    seen.add(due)
                self.assertEqual((one.folk(), one.standing(), one.ashore()), states[-1])
                self.assertEqual((len(one), one.busy), (len(states[-1][0]), False))
        self.assertLessEqual({NoPlaces, Bumps, NoName, NotFront, TooFar}, seen)


if __name__ == "__main__":
    unittest.main()

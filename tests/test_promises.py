"""Point 2 over all that is built, and the interface as it is told."""

import copy
import inspect
import unittest

from raftwalk import ashore, errors, ponds, standings, stepping, tables, unseen
from tests.helper import ANYTHING, cases, crossings, subsets

INTERFACE = {
    standings: {
        "is_raft": ["thing"],
        "are_folk": ["thing"],
        "is_standing": ["raft", "folk", "thing"],
        "gap_behind": ["raft", "folk", "standing", "places"],
        "gaps": ["raft", "folk", "standing"],
    },
    stepping: {
        "can_step": ["raft", "folk", "standing"],
        "places_for": ["raft", "folk", "standing", "name"],
        "stepped": ["raft", "folk", "standing", "name"],
    },
    ashore: {
        "most_ashore": ["raft", "folk", "standing"],
        "plan": ["raft", "folk", "standing"],
        "by_plan": ["raft", "folk", "standing", "thing"],
        "lots": ["raft", "folk", "standing"],
        "orders": ["raft", "folk", "standing", "lot"],
    },
    tables: {
        "table": ["raft", "folk", "standing"],
        "shown": ["raft", "folk", "standing", "thing"],
        "must_stay": ["raft", "folk", "standing"],
    },
    unseen: {
        "unseen": ["raft", "folk", "standing", "name", "places", "gap"],
    },
    ponds: {
        "Pond": ["raft", "folk", "standing"],
    },
}
METHODS = {"walk": ["places"], "step": ["name"], "back": [], "folk": [], "standing": [], "ashore": []}
RAFT = (4, 40)
FOLK = (("ann", 50, 2), ("bob", 70, 2), ("cy", 40, 2))
STANDING = ((1, 2), ((0, 1), (1, 3), (0, 1)))


def answers(raft, folk, standing):
    """All that can be asked of a standing, but for getting ashore."""
    told = [
        standings.is_raft(raft),
        standings.are_folk(folk),
        standings.is_standing(raft, folk, standing),
        standings.gap_behind(raft, folk, standing, tuple((raft[0], 1) for _ in folk)),
        standings.gaps(raft, folk, standing),
        stepping.can_step(raft, folk, standing),
    ]
    for one in folk:
        told.append(stepping.places_for(raft, folk, standing, one[0]))
        told.append(stepping.stepped(raft, folk, standing, one[0]))
    return told


def answers_ashore(raft, folk, standing):
    """All that can be asked of getting ashore, of an unseen weight and of a pond."""
    steps, rows = ashore.plan(raft, folk, standing), tables.table(raft, folk, standing)
    told = [
        ashore.most_ashore(raft, folk, standing),
        steps,
        ashore.by_plan(raft, folk, standing, steps),
        ashore.lots(raft, folk, standing),
        rows,
        tables.shown(raft, folk, standing, rows),
        tables.must_stay(raft, folk, standing),
    ]
    told += [ashore.orders(raft, folk, standing, lot) for lot in subsets(folk)]
    told += [unseen.unseen(raft, folk, standing, one[0], standing[1], (1, 2)) for one in folk]
    pond = ponds.Pond(raft, folk, standing)
    for places, name in steps:
        pond.walk(places)
        pond.step(name)
        told += [pond.folk(), pond.standing(), pond.ashore(), len(pond)]
    return told


class Interface(unittest.TestCase):
    def test_names_and_arguments(self):
        for module, functions in INTERFACE.items():
            for name, arguments in functions.items():
                function = getattr(module, name)
                self.assertEqual(function.__module__, module.__name__)
                self.assertEqual(list(inspect.signature(function).parameters), arguments, name)

    def test_methods_and_their_arguments(self):
        for name, arguments in METHODS.items():
            method = vars(ponds.Pond)[name]
            self.assertEqual(list(inspect.signature(method).parameters)[1:], arguments, name)

    def test_things_by_name(self):
        self.assertIs(standings.is_raft(thing=RAFT), True)
        self.assertIs(standings.are_folk(thing=FOLK), True)
        self.assertIs(standings.is_standing(thing=STANDING, folk=FOLK, raft=RAFT), True)

    def test_errors_are_defined_in_their_file(self):
        for name, kind in inspect.getmembers(errors, inspect.isclass):
            self.assertEqual(kind.__module__, "raftwalk.errors", name)


class Unchanged(unittest.TestCase):
    def test_handed_in_is_as_it_was(self):
        for raft, folk, standing in cases():
            before = copy.deepcopy((raft, folk, standing))
            answers(raft, folk, standing)
            self.assertEqual((raft, folk, standing), before)

    def test_handed_in_for_getting_ashore_is_as_it_was(self):
        for raft, folk, standing in crossings():
            before = copy.deepcopy((raft, folk, standing))
            first = answers_ashore(raft, folk, standing)
            self.assertEqual((raft, folk, standing), before)
            self.assertEqual(answers_ashore(raft, folk, standing), first)

    def test_a_plan_handed_in_is_as_it_was_and_is_not_kept(self):
        steps = ashore.plan(RAFT, FOLK, STANDING)
        before = copy.deepcopy(steps)
        self.assertEqual(ashore.by_plan(RAFT, FOLK, STANDING, steps), 3)
        self.assertEqual(steps, before)
        steps.pop()
        self.assertEqual(ashore.by_plan(RAFT, FOLK, STANDING, steps), 2)
        self.assertEqual(ashore.plan(RAFT, FOLK, STANDING), before)

    def test_anything_handed_in_for_getting_ashore_is_as_it_was(self):
        before, pond = copy.deepcopy(ANYTHING), ponds.Pond(RAFT, FOLK, STANDING)
        for thing in ANYTHING:
            for ask in (ashore.by_plan, tables.shown):
                self.assertEqual(ask(RAFT, FOLK, STANDING, thing), ask(RAFT, FOLK, STANDING, thing))
            for deed in (pond.walk, lambda each: ponds.Pond(each, each, each)):
                with self.assertRaises(errors.RaftError):
                    deed(thing)
        self.assertEqual(ANYTHING, before)

    def test_anything_handed_in_is_as_it_was(self):
        before = copy.deepcopy(ANYTHING)
        for thing in ANYTHING:
            standings.is_raft(thing)
            standings.are_folk(thing)
            standings.is_standing(RAFT, FOLK, thing)
        self.assertEqual(ANYTHING, before)

    def test_same_asked_again(self):
        for raft, folk, standing in cases():
            self.assertEqual(answers(raft, folk, standing), answers(raft, folk, standing))

    def test_anything_asked_again(self):
        for thing in ANYTHING:
            for ask in (standings.is_raft, standings.are_folk):
                self.assertIs(ask(thing), ask(thing))

    def test_lists_are_new_ones(self):
        one, other = stepping.can_step(RAFT, FOLK, STANDING), stepping.can_step(RAFT, FOLK, STANDING)
        self.assertEqual(one, ["ann", "bob", "cy"])
        self.assertEqual(one, other)
        self.assertIsNot(one, other)
        one.append("dan")
        del one[0]
        self.assertEqual(other, ["ann", "bob", "cy"])
        self.assertEqual(stepping.can_step(RAFT, FOLK, STANDING), ["ann", "bob", "cy"])

    def test_lists_of_getting_ashore_are_new_ones(self):
        rows = tables.table(RAFT, FOLK, STANDING)
        for ask in (ashore.plan, ashore.lots, lambda *told: tables.shown(*told, rows)):
            for standing in (STANDING, ((100, 1), STANDING[1])):
                first, other = ask(RAFT, FOLK, standing), ask(RAFT, FOLK, standing)
                if first is None:
                    continue
                due = list(first)
                first.append(None)
                first.reverse()
                self.assertEqual(other, due)
                self.assertEqual(ask(RAFT, FOLK, standing), due)

    def test_empty_lists_are_new_ones(self):
        far = ((100, 1), STANDING[1])
        stepping.can_step(RAFT, FOLK, far).append("ann")
        self.assertEqual(stepping.can_step(RAFT, FOLK, far), [])

    def test_asking_others_between_changes_nothing(self):
        first = answers(RAFT, FOLK, STANDING)
        answers((1, 1), FOLK[:1], ((9, 1), ((1, 1),)))
        self.assertEqual(answers(RAFT, FOLK, STANDING), first)


if __name__ == "__main__":
    unittest.main()

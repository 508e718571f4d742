"""Point 3: what holds between all that is told, other measures, other names, and how long it takes."""

import time
import unittest
from fractions import Fraction

from raftwalk.ashore import by_plan, lots, most_ashore, orders, plan
from raftwalk.ponds import Pond
from raftwalk.standings import gap_behind, gaps, is_standing
from raftwalk.stepping import can_step, places_for, stepped
from raftwalk.tables import must_stay, shown, table
from raftwalk.unseen import unseen
from tests.helper import crossings, frac, grid, names, pair, seven, subsets

ALIKE = (("ann", 10, 3), ("bob", 25, 3), ("cy", 18, 3), ("dan", 40, 3))
UNLIKE = (("ann", 10, 5), ("bob", 25, 0), ("cy", 18, 3), ("dan", 40, 1))


def measured():
    """Rafts, folk and standings that stay such ones when all is three times as great."""
    for raft, folk, top in [(raft, folk, top) for raft in ((9, 20), (20, 300)) for folk in (ALIKE, UNLIKE, ALIKE[:1])
                            for top in range(0, 24, 3)]:
        yield raft, folk, (pair(Fraction(top, 2)), tuple(pair(Fraction(k, k + 2)) for k, one in enumerate(folk)))


def heavier(raft, folk, times):
    return (raft[0], raft[1] * times), tuple((name, heavy * times, reach) for name, heavy, reach in folk)


def longer(raft, folk, standing, times):
    lengthened = tuple((name, heavy, reach * times) for name, heavy, reach in folk)
    return (raft[0] * times, raft[1]), lengthened, (longer_by(standing[0], times), all_longer(standing[1], times))


def longer_by(length, times):
    return None if length is None else pair(times * frac(length))


def all_longer(lengths, times):
    return None if lengths is None else tuple(longer_by(length, times) for length in lengths)


def who(raft, folk, standing):
    """All that is told of names and numbers of them."""
    return (
        can_step(raft, folk, standing),
        most_ashore(raft, folk, standing),
        lots(raft, folk, standing),
        [orders(raft, folk, standing, lot) for lot in subsets(folk)],
        shown(raft, folk, standing, table(raft, folk, standing)),
        by_plan(raft, folk, standing, plan(raft, folk, standing)),
    )


class Measures(unittest.TestCase):
    def test_weights_so_many_times_as_great(self):
        for raft, folk, standing in measured():
            for times in (2, 3):
                other, others = heavier(raft, folk, times)
                self.assertEqual(who(other, others, standing), who(raft, folk, standing))
                self.assertEqual(gaps(other, others, standing), gaps(raft, folk, standing))
                self.assertEqual(table(other, others, standing), table(raft, folk, standing))
                self.assertEqual(must_stay(other, others, standing), longer_by(must_stay(raft, folk, standing), times))
                steps = plan(raft, folk, standing)
                self.assertEqual(by_plan(other, others, standing, steps), len(steps))
                self.walks(raft, folk, standing, other, others, times)

    def walks(self, raft, folk, standing, other, others, times):
        for places in grid(raft, folk, 1):
            gap = gap_behind(raft, folk, standing, places)
            self.assertEqual(gap_behind(other, others, standing, places), gap)
            for name in names(folk) if gap else ():
                told = unseen(raft, folk, standing, name, places, gap)
                self.assertEqual(unseen(other, others, standing, name, places, gap), self.heavier_by(told, times))

    def heavier_by(self, told, times):
        return told if told in ("any", None) else longer_by(told, times)

    def test_lengths_so_many_times_as_great(self):
        for raft, folk, standing in measured():
            for times in (2, 3):
                other, others, there = longer(raft, folk, standing, times)
                self.assertTrue(is_standing(other, others, there))
                self.assertEqual(who(other, others, there), who(raft, folk, standing))
                self.assertEqual(gaps(other, others, there), all_longer(gaps(raft, folk, standing), times))
                due = tuple((lot, longer_by(gap, times)) for lot, gap in table(raft, folk, standing))
                self.assertEqual(table(other, others, there), due)
                self.assertEqual(must_stay(other, others, there), must_stay(raft, folk, standing))
                steps = [(all_longer(places, times), name) for places, name in plan(raft, folk, standing)]
                self.assertEqual(by_plan(other, others, there, steps), len(steps))
                self.longer_walks(raft, folk, standing, times)

    def longer_walks(self, raft, folk, standing, times):
        other, others, there = longer(raft, folk, standing, times)
        for places in grid(raft, folk, 1):
            gap, along = gap_behind(raft, folk, standing, places), all_longer(places, times)
            self.assertEqual(gap_behind(other, others, there, along), longer_by(gap, times))
            for name in names(folk) if gap else ():
                told = unseen(raft, folk, standing, name, places, gap)
                self.assertEqual(unseen(other, others, there, name, along, longer_by(gap, times)), told)

    def test_names_with_a_letter_behind(self):
        for raft, folk, standing in measured():
            others = tuple((name + "x", heavy, reach) for name, heavy, reach in folk)
            self.assertEqual(who(raft, others, standing), self.renamed(who(raft, folk, standing)))
            self.assertEqual(table(raft, others, standing), self.renamed(table(raft, folk, standing)))
            self.assertEqual(must_stay(raft, others, standing), must_stay(raft, folk, standing))

    def renamed(self, thing):
        if isinstance(thing, (list, tuple)):
            return type(thing)(self.renamed(each) for each in thing)
        return thing + "x" if isinstance(thing, str) else thing

    def test_ponds_of_other_measures(self):
        for raft, folk, standing in measured():
            one = Pond(raft, folk, standing)
            heavy, long = Pond(*heavier(raft, folk, 2), standing), Pond(*longer(raft, folk, standing, 3))
            for places, name in plan(raft, folk, standing):
                one.walk(places), heavy.walk(places), long.walk(all_longer(places, 3))
                one.step(name), heavy.step(name), long.step(name)
            self.assertEqual((heavy.ashore(), long.ashore()), (one.ashore(), one.ashore()))
            self.assertEqual(heavy.standing(), one.standing())
            self.assertEqual(long.standing()[0], longer_by(one.standing()[0], 3))


class Between(unittest.TestCase):
    def test_those_who_can_step_off_are_the_lots_of_one(self):
        for raft, folk, standing in crossings():
            one = [lot[0] for lot in lots(raft, folk, standing) if len(lot) == 1]
            self.assertEqual(can_step(raft, folk, standing), one)

    def test_a_lot_less_its_last_one_is_a_lot(self):
        for raft, folk, standing in crossings():
            told = lots(raft, folk, standing)
            for lot in told[1:]:
                first = orders(raft, folk, standing, lot)[1]
                self.assertIn(tuple(sorted(first[:-1])), told)

    def test_the_most_are_of_the_lots(self):
        for raft, folk, standing in crossings():
            told = lots(raft, folk, standing)
            number, lot = most_ashore(raft, folk, standing)
            self.assertEqual((number, lot in told), (len(lot), True))
            self.assertEqual(number, max(map(len, told)))
            self.assertEqual(number, len(plan(raft, folk, standing)))

    def test_walking_changes_nothing_of_who_can(self):
        for raft, folk, standing in list(crossings())[::9]:
            due, rows = who(raft, folk, standing), table(raft, folk, standing)
            for places in grid(raft, folk, 1):
                gap = gap_behind(raft, folk, standing, places)
                if gap is not None:
                    self.assertEqual(who(raft, folk, (gap, places)), due)
                    self.assertEqual(table(raft, folk, (gap, places)), rows)

    def test_the_table_has_the_front_gap_behind_the_best_step(self):
        for raft, folk, standing in crossings():
            rows = dict(table(raft, folk, standing))
            for name in can_step(raft, folk, standing):
                places = places_for(raft, folk, standing, name)
                left = stepped(raft, folk, (gap_behind(raft, folk, standing, places), places), name)
                self.assertEqual(rows[(name,)], gaps(raft, *left)[1])

    def test_a_told_weight_may_be_handed_to_the_folk(self):
        raft, folk = (9, 20), UNLIKE
        standing, places = ((5, 1), ((0, 1),) * 4), ((9, 1), (0, 1), (3, 1), (1, 2))
        gap = gap_behind(raft, folk, standing, places)
        for at, (name, heavy, reach) in enumerate(folk):
            self.assertEqual(unseen(raft, folk[:at] + ((name, 1, reach),) + folk[at + 1:], standing, name, places, gap), (heavy, 1))


class Lasting(unittest.TestCase):
    """Seven folk, with numbers as long as may be handed in."""

    def timed(self, ask, *told):
        start = time.process_time()
        answer = ask(*told)
        self.assertLess(time.process_time() - start, 1.5, ask.__name__)
        return answer

    def test_all_within_a_second_or_so(self):
        for reaches in ((5,) * 7, (0,) * 7, (100,) * 7, (0, 1, 2, 3, 4, 5, 6), (3, 1, 4, 1, 5, 9, 2)):
            for gap in ((3, 1), (9, 1), (10 ** 39 + 7, 10 ** 38 + 9)):
                self.all_of(*seven(reaches, gap))

    def all_of(self, raft, folk, standing):
        told = self.timed(lots, raft, folk, standing)
        rows = self.timed(table, raft, folk, standing)
        self.assertEqual(self.timed(shown, raft, folk, standing, rows), told)
        steps = self.timed(plan, raft, folk, standing)
        self.assertEqual(self.timed(by_plan, raft, folk, standing, steps), len(steps))
        self.assertEqual(self.timed(most_ashore, raft, folk, standing)[0], len(steps))
        self.timed(orders, raft, folk, standing, tuple(names(folk)))
        self.timed(must_stay, raft, folk, standing)
        self.timed(can_step, raft, folk, standing)
        self.timed(self.gone_through, raft, folk, standing, steps)

    def gone_through(self, raft, folk, standing, steps):
        pond = Pond(raft, folk, standing)
        for places, name in steps:
            before = pond.standing()
            pond.walk(places)
            self.assertIn(unseen(raft, pond.folk(), before, name, places, pond.standing()[0]),
                          ("any", (dict((one[0], one[1]) for one in folk)[name], 1)))
            pond.step(name)
        return pond


if __name__ == "__main__":
    unittest.main()

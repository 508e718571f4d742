"""Point 4 (and 2): what is a raft, folk, a standing."""

import unittest

from raftwalk.standings import are_folk, is_raft, is_standing
from tests.helper import ANYTHING, FOLKS, RAFTS, SEVEN, cases, mixed, nested


class Telling(unittest.TestCase):
    def right(self, ask, things):
        for thing in things:
            self.assertIs(ask(thing), True, repr(thing)[:200])

    def wrong(self, ask, things):
        for thing in things:
            self.assertIs(ask(thing), False, repr(thing)[:200])


class Rafts(Telling):
    def test_bounds(self):
        self.right(is_raft, RAFTS + [(1, 1), (1, 1000), (1000, 1), (1000, 1000)])
        self.wrong(is_raft, [(0, 1), (1, 0), (1001, 1), (1, 1001), (-1, 5), (5, -1), (10 ** 39, 1), (1, 10 ** 39)])

    def test_truths_are_no_numbers(self):
        self.wrong(is_raft, [(True, 1), (1, True), (True, True), (False, 1), (1, False)])

    def test_other_kinds(self):
        self.wrong(is_raft, [[4, 10], (4,), (4, 10, 1), ("4", 10), (4, "10"), (4, None), (4, (10,)), ([4], [10])])
        self.wrong(is_raft, [(4.0, 10), (4, 10.0), ((4, 10),), ((4, 1), (10, 1))])

    def test_anything(self):
        self.wrong(is_raft, [thing for thing in ANYTHING])


def one(name="ann", heavy=60, reach=2):
    return ((name, heavy, reach),)


class Folk(Telling):
    def test_how_many(self):
        eight = SEVEN + (("h", 1, 1),)
        self.right(are_folk, FOLKS + [SEVEN, SEVEN[:1], SEVEN[:6], SEVEN[2:]])
        self.wrong(are_folk, [(), eight])

    def test_heavy(self):
        self.right(are_folk, [one(heavy=1), one(heavy=200)])
        self.wrong(are_folk, [one(heavy=k) for k in (0, 201, -1, True, False, None, "60", 60.0, (60, 1), 10 ** 39)])

    def test_reach(self):
        self.right(are_folk, [one(reach=0), one(reach=1), one(reach=100)])
        self.wrong(are_folk, [one(reach=k) for k in (-1, 101, True, False, None, "2", 2.0, (2, 1), 10 ** 39)])

    def test_names(self):
        self.right(are_folk, [one(name) for name in ("a", "z", "az", "abcdefgh", "zzzzzzzz")])
        self.wrong(are_folk, [one(name) for name in (
            "", "abcdefghi", "Ann", "anN", "ann1", "1", "an n", " ", " ann", "ann ", "ann\n", "\n", "a_b", "a-b",
            "`", "{", "~", "a" * 1000, 1, None, True, ("a",), ["a"], b"ann",
        )])

    def test_rising(self):
        ann, bob, cy = ("ann", 60, 2), ("bob", 80, 0), ("cy", 5, 5)
        self.right(are_folk, [(ann, bob), (bob, cy), (ann, bob, cy), (("a", 9, 9), ("aa", 1, 1), ("b", 1, 1))])
        self.wrong(are_folk, [(bob, ann), (ann, cy, bob), (cy, bob, ann), (bob, ann, cy), (("aa", 1, 1), ("a", 9, 9))])

    def test_one_name_twice(self):
        self.wrong(are_folk, [
            (("ann", 60, 2), ("ann", 60, 2)),
            (("ann", 60, 2), ("ann", 61, 2)),
            (("ann", 60, 2), ("ann", 60, 3)),
            (("ann", 60, 2), ("bob", 1, 1), ("bob", 2, 1)),
            (("ann", 60, 2), ("ann", 61, 3), ("bob", 1, 1)),
        ])

    def test_one_wrong_among_right_ones(self):
        self.wrong(are_folk, [SEVEN[:at] + ((SEVEN[at][0], 0, 1),) + SEVEN[at + 1:] for at in range(7)])
        self.wrong(are_folk, [SEVEN[:at] + (wrong,) + SEVEN[at + 1:] for at in range(7) for wrong in (None, (), "a", 1)])

    def test_lists_for_tuples(self):
        self.wrong(are_folk, [[("ann", 60, 2)], (["ann", 60, 2],), [["ann", 60, 2]], ("ann", 60, 2)])

    def test_too_few_and_too_many_parts(self):
        self.wrong(are_folk, [(("ann", 60),), (("ann",),), ((),), (("ann", 60, 2, 1),), ((("ann", 60, 2),),)])

    def test_anything(self):
        self.wrong(are_folk, ANYTHING)
        self.wrong(are_folk, [one(thing) for thing in ANYTHING if thing not in ("a", "ann", "abcdefgh")])


RAFT = (4, 10)
TWO = (("ann", 60, 2), ("bob", 80, 0))


def of_two(thing):
    return is_standing(RAFT, TWO, thing)


def gap_of(gap):
    return (gap, ((0, 1), (4, 1)))


def place_of(place):
    return ((1, 2), ((0, 1), place))


WRONG_FRACTIONS = [
    (2, 4), (2, 2), (3, 3), (0, 2), (0, 4), (0, 0), (1, 0), (3, 0), (0, -1), (1, -1), (1, -2), (-1, 1), (-1, 2),
    (-1, -1), (-1, -2), (10 ** 39, 10 ** 38), (True, 1), (1, True), (False, 1), (True, True), [1, 2], (1,), (1, 2, 1),
    (), (1, None), (None, 1), ("1", 2), (1, "2"), 1, 0, "1", None, True, 0.5, (0.5, 1), (1.0, 1), ((1, 2),), ((1, 2), 1),
]


class Standings(Telling):
    def test_right_ones(self):
        for raft, folk, standing in cases():
            self.assertIs(is_standing(raft, folk, standing), True, (raft, folk, standing))

    def test_gaps(self):
        self.right(of_two, [gap_of(gap) for gap in [(0, 1), (1, 1), (1, 2), (1, 10 ** 39), (10 ** 39, 1), (10 ** 39, 7)]])
        self.right(of_two, [gap_of((10 ** 60 + 1, 10 ** 60))])
        self.wrong(of_two, [gap_of(gap) for gap in WRONG_FRACTIONS])

    def test_places(self):
        self.right(of_two, [place_of(place) for place in [(0, 1), (1, 1), (1, 2), (7, 2), (4, 1), (1, 10 ** 39)]])
        self.wrong(of_two, [place_of(place) for place in WRONG_FRACTIONS])

    def test_wrong_first_place(self):
        self.wrong(of_two, [((1, 2), (place, (0, 1))) for place in WRONG_FRACTIONS + [(9, 2), (5, 1)]])

    def test_place_at_long_and_just_beyond(self):
        self.right(of_two, [place_of((4, 1)), place_of((4 * 10 ** 38 - 1, 10 ** 38))])
        self.wrong(of_two, [place_of(place) for place in [(5, 1), (9, 2), (4 * 10 ** 38 + 1, 10 ** 38), (10 ** 39, 1)]])
        self.assertIs(is_standing((1, 1), TWO[:1], ((0, 1), ((1, 1),))), True)
        self.assertIs(is_standing((1, 1), TWO[:1], ((0, 1), ((1001, 1000),))), False)
        self.assertIs(is_standing((1000, 1), TWO[:1], ((0, 1), ((1000, 1),))), True)
        self.assertIs(is_standing((1000, 1), TWO[:1], ((0, 1), ((1001, 1),))), False)

    def test_gap_may_be_longer_than_the_raft(self):
        self.right(of_two, [gap_of((5, 1)), gap_of((1001, 1))])

    def test_too_few_and_too_many_places(self):
        self.wrong(of_two, [((1, 2), ()), ((1, 2), ((0, 1),)), ((1, 2), ((0, 1),) * 3), ((1, 2), ((0, 1),) * 300)])

    def test_lists_for_tuples(self):
        good = ((0, 1), (1, 1))
        self.right(of_two, [((1, 2), good)])
        self.wrong(of_two, [[(1, 2), good], ([1, 2], good), ((1, 2), list(good)), ((1, 2), ([0, 1], (1, 1)))])

    def test_too_few_and_too_many_parts(self):
        good = ((0, 1), (1, 1))
        self.wrong(of_two, [(), ((1, 2),), (good,), ((1, 2), good, ()), ((1, 2), (0, 1), (1, 1)), (good, (1, 2))])

    def test_anything(self):
        self.wrong(of_two, ANYTHING)
        self.wrong(of_two, [gap_of(thing) for thing in ANYTHING])
        self.wrong(of_two, [place_of(thing) for thing in ANYTHING])
        self.wrong(of_two, [((0, 1), thing) for thing in ANYTHING])
        self.wrong(of_two, [nested(20, kind, gap_of((0, 1))) for kind in (list, tuple)] + [mixed(12, gap_of((0, 1)))])

    def test_hangs_on_the_raft_and_the_folk(self):
        standing = ((1, 2), ((5, 1), (0, 1)))
        self.assertIs(is_standing((4, 10), TWO, standing), False)
        self.assertIs(is_standing((5, 10), TWO, standing), True)
        self.assertIs(is_standing((5, 10), TWO[:1], standing), False)


if __name__ == "__main__":
    unittest.main()

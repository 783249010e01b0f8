"""[20] the least long, the least way, and what is one."""

import unittest

from freshreach.roads import is_least_way, least_long, least_way
from tests.samples import APART, GREAT, LONGEST_NUMBER, SMALL, THINGS, as_lists, put_in
from tests.samples import all_ways, long_of, pairs_of, tried_cuts


# From 0 to 5 there are several ways of the same long, 6.
ALIKE = (
    ("house", "door", "book", "cross", "cross", "cross"),
    ((0, 1, 3), (0, 2, 1), (0, 3, 2), (0, 5, 6), (1, 5, 3), (2, 3, 1), (2, 4, 2), (3, 4, 1), (3, 5, 5), (4, 5, 3)),
    (("a", 0, 9),),
    ((0, "a", "abc", 9),),
    (2, 9, 9, 2, 2),
)
ALL_PLANS = (SMALL, GREAT, APART, ALIKE)


class TestLeast(unittest.TestCase):
    def assert_least(self, plan, one, other, long, way, **cuts):
        self.assertEqual(least_long(plan, one, other, **cuts), long)
        self.assertEqual(least_way(plan, one, other, **cuts), way)

    def test_without_cuts(self):
        self.assert_least(SMALL, 0, 1, 1, (0, 1))
        self.assert_least(SMALL, 2, 0, 1, (2, 0))
        self.assert_least(SMALL, 2, 0, 1, (2, 0), cuts=())
        self.assert_least(GREAT, 6, 7, 1, (6, 7))
        self.assert_least(GREAT, 7, 4, 6, (7, 6, 5, 4))

    def test_one_place_twice(self):
        for plan in ALL_PLANS:
            for place in range(len(plan[0])):
                self.assert_least(plan, place, place, 0, (place,))
                self.assert_least(plan, place, place, 0, (place,), cuts=pairs_of(plan))

    def test_with_some_roads_cut(self):
        self.assert_least(SMALL, 0, 1, 2, (0, 2, 1), cuts=((0, 1),))
        self.assert_least(SMALL, 1, 0, 2, (1, 2, 0), cuts=((0, 1),))
        self.assert_least(SMALL, 0, 1, None, None, cuts=((0, 1), (0, 2)))
        self.assert_least(SMALL, 1, 2, 1, (1, 2), cuts=((0, 1), (0, 2)))
        self.assert_least(SMALL, 0, 2, 1, (0, 2), cuts=((0, 1), (1, 2)))
        self.assert_least(GREAT, 7, 4, 12, (7, 5, 4), cuts=((5, 6), (6, 7)))
        self.assert_least(GREAT, 7, 4, 9, (7, 6, 4), cuts=((5, 6), (5, 7)))

    def test_with_all_roads_cut(self):
        for plan in ALL_PLANS:
            for one in range(len(plan[0])):
                for other in range(len(plan[0])):
                    if one != other:
                        self.assert_least(plan, one, other, None, None, cuts=pairs_of(plan))

    def test_no_way(self):
        for one in range(4):
            for other in (4, 5, 6):
                self.assert_least(APART, one, other, None, None)
                self.assert_least(APART, other, one, None, None)
        self.assert_least(APART, 5, 6, None, None)
        self.assert_least(put_in(SMALL, (1,), ()), 0, 1, None, None)

    def test_over_more_roads_and_shorter_than_straight(self):
        self.assert_least(APART, 0, 3, 4, (0, 1, 3))
        self.assert_least(APART, 0, 3, 4, (0, 2, 3), cuts=((0, 1),))
        self.assert_least(APART, 0, 3, 9, (0, 3), cuts=((0, 1), (0, 2)))
        self.assert_least(APART, 0, 3, 9, (0, 3), cuts=((0, 1), (2, 3)))
        self.assert_least(GREAT, 0, 1, 6, (0, 2, 1))
        self.assert_least(GREAT, 5, 7, 3, (5, 6, 7))
        chain = tuple([(0, 7, 9)] + [(at, at + 1, 1) for at in range(7)])
        plan = put_in(GREAT, (1,), tuple(sorted(chain)))
        self.assert_least(plan, 0, 7, 7, (0, 1, 2, 3, 4, 5, 6, 7))
        self.assert_least(plan, 7, 0, 7, (7, 6, 5, 4, 3, 2, 1, 0))
        self.assert_least(plan, 7, 0, 9, (7, 0), cuts=((3, 4),))

    def test_a_chain_out_of_order(self):
        roads = ((0, 4, 9), (1, 5, 9), (1, 7, 9), (2, 4, 9), (2, 6, 9), (3, 5, 9), (3, 6, 9))
        plan = put_in(GREAT, (1,), roads)
        self.assert_least(plan, 0, 7, 63, (0, 4, 2, 6, 3, 5, 1, 7))
        self.assert_least(plan, 7, 0, 63, (7, 1, 5, 3, 6, 2, 4, 0))

    def test_of_several_the_least_tuple(self):
        # The least tuple has more places than the others here ..
        self.assert_least(ALIKE, 0, 5, 6, (0, 1, 5))
        self.assert_least(ALIKE, 0, 5, 6, (0, 2, 3, 4, 5), cuts=((0, 1),))
        self.assert_least(ALIKE, 0, 5, 6, (0, 2, 4, 5), cuts=((0, 1), (2, 3)))
        self.assert_least(ALIKE, 0, 5, 6, (0, 3, 4, 5), cuts=((0, 1), (0, 2)))
        # .. and fewer, from the other side.
        self.assert_least(ALIKE, 5, 0, 6, (5, 0))
        self.assert_least(ALIKE, 5, 0, 6, (5, 1, 0), cuts=((0, 5),))
        self.assert_least(ALIKE, 5, 0, 6, (5, 4, 2, 0), cuts=((0, 1), (0, 5)))
        self.assert_least(GREAT, 0, 2, 2, (0, 2))
        self.assert_least(APART, 3, 0, 4, (3, 1, 0))

    def test_as_all_ways_tell(self):
        for plan in ALL_PLANS:
            for cuts in tried_cuts(plan):
                for one in range(len(plan[0])):
                    for other in range(len(plan[0])):
                        self.check_by_all_ways(plan, one, other, cuts)

    def check_by_all_ways(self, plan, one, other, cuts):
        ways = sorted([(long_of(plan, way), way) for way in all_ways(plan, one, other, cuts)])
        long, way = ways[0] if ways else (None, None)
        self.assert_least(plan, one, other, long, way, cuts=cuts)
        for told, way in ways[:40] + ways[-3:]:
            self.assertIs(is_least_way(plan, one, other, way, cuts=cuts), told == long, (plan, cuts, way))

    def test_kinds_of_answers(self):
        for plan in ALL_PLANS:
            for other in range(len(plan[0])):
                long, way = least_long(plan, 0, other), least_way(plan, 0, other)
                self.assertIn((type(long), type(way)), ((int, tuple), (type(None), type(None))))


class TestIsLeastWay(unittest.TestCase):
    def assert_is(self, answer, plan, one, other, thing, **cuts):
        self.assertIs(is_least_way(plan, one, other, thing, **cuts), answer, (one, other, repr(thing)[:500], cuts))

    def test_the_least_one_and_others_of_the_same_long(self):
        for way in ((0, 1, 5), (0, 2, 3, 4, 5), (0, 2, 4, 5), (0, 3, 4, 5), (0, 5)):
            self.assert_is(True, ALIKE, 0, 5, way)
            self.assert_is(True, ALIKE, 0, 5, way, cuts=())
            self.assert_is(True, ALIKE, 5, 0, way[::-1])
        self.assert_is(True, APART, 0, 3, (0, 1, 3))
        self.assert_is(True, APART, 0, 3, (0, 2, 3))

    def test_longer_ones(self):
        self.assert_is(False, APART, 0, 3, (0, 3))
        self.assert_is(False, ALIKE, 0, 5, (0, 3, 5))
        self.assert_is(False, ALIKE, 0, 5, (0, 2, 3, 5))
        self.assert_is(False, GREAT, 0, 1, (0, 1))
        self.assert_is(False, SMALL, 0, 1, (0, 2, 1))

    def test_longer_ones_are_least_behind_cuts(self):
        self.assert_is(True, APART, 0, 3, (0, 3), cuts=((0, 1), (0, 2)))
        self.assert_is(True, SMALL, 0, 1, (0, 2, 1), cuts=((0, 1),))

    def test_turned_about(self):
        self.assert_is(False, SMALL, 0, 1, (1, 0))
        self.assert_is(False, APART, 0, 3, (3, 1, 0))
        self.assert_is(True, APART, 3, 0, (3, 1, 0))

    def test_with_a_place_twice(self):
        for way in ((0, 1, 0, 1), (0, 0, 1), (0, 1, 1), (0, 2, 0, 1), (0, 1, 2, 1)):
            self.assert_is(False, SMALL, 0, 1, way)
        for way in ((0, 0), (0, 1, 0), (0, 1, 2, 0)):
            self.assert_is(False, SMALL, 0, 0, way)

    def test_from_a_place_to_itself(self):
        for place in range(7):
            self.assert_is(True, APART, place, place, (place,))
            self.assert_is(True, APART, place, place, (place,), cuts=pairs_of(APART))
            self.assert_is(False, APART, place, place, ())
            self.assert_is(False, APART, place, place, place)
            self.assert_is(False, APART, place, place, ((place + 1) % 7,))

    def test_over_a_cut_road(self):
        self.assert_is(False, SMALL, 0, 1, (0, 1), cuts=((0, 1),))
        self.assert_is(False, APART, 0, 3, (0, 1, 3), cuts=((1, 3),))
        self.assert_is(False, APART, 3, 0, (3, 1, 0), cuts=((0, 1),))
        self.assert_is(True, APART, 3, 0, (3, 2, 0), cuts=((0, 1),))
        self.assert_is(False, SMALL, 0, 1, (0, 1), cuts=pairs_of(SMALL))

    def test_over_what_is_no_road(self):
        self.assert_is(False, APART, 1, 2, (1, 2))
        self.assert_is(False, APART, 0, 4, (0, 4))
        self.assert_is(False, APART, 0, 3, (0, 4, 3))
        self.assert_is(False, APART, 0, 3, (0, -4, 3))
        self.assert_is(False, APART, 0, 3, (0, 7, 3))
        self.assert_is(False, APART, 0, 3, (0, LONGEST_NUMBER, 3))

    def test_between_other_places(self):
        self.assert_is(False, APART, 0, 3, (0, 1))
        self.assert_is(False, APART, 0, 3, (1, 3))
        self.assert_is(False, APART, 0, 3, (0,))
        self.assert_is(False, APART, 0, 3, (3,))
        self.assert_is(False, APART, 0, 3, ())
        self.assert_is(False, APART, 0, 3, (0, 1, 3, 2))
        self.assert_is(False, APART, 0, 3, (1, 0, 2, 3))
        # As long as the least way, but elsewhere.
        self.assert_is(False, APART, 0, 3, (1, 0, 2))
        self.assert_is(False, SMALL, 0, 1, (0, 2))
        self.assert_is(False, SMALL, 0, 1, (2, 1))

    def test_where_there_is_no_way(self):
        for thing in (None, (), (0, 4), (0, 1, 4), (0,), (4,), 0):
            self.assert_is(False, APART, 0, 4, thing)

    def test_lists_and_truths_and_more(self):
        self.assert_is(False, SMALL, 0, 1, [0, 1])
        self.assert_is(False, SMALL, 0, 1, (False, True))
        self.assert_is(False, SMALL, 0, 1, (0, True))
        self.assert_is(False, SMALL, 0, 1, (False, 1))
        self.assert_is(False, SMALL, 0, 0, (False,))
        self.assert_is(False, APART, 0, 3, (0, True, 3))
        self.assert_is(False, SMALL, 0, 1, ((0, 1),))
        self.assert_is(False, SMALL, 0, 1, ("0", "1"))
        self.assert_is(False, SMALL, 0, 1, "01")
        self.assert_is(False, SMALL, 0, 1, {0: 0, 1: 1})
        self.assert_is(False, SMALL, 0, 1, (0, None, 1))
        self.assert_is(False, SMALL, 0, 1, (0, [], 1))
        self.assert_is(False, SMALL, 0, 1, (0, {}, 1))
        self.assert_is(False, SMALL, 0, 1, (0, (2, 2), 1))

    def test_things_of_every_kind(self):
        for thing in THINGS:
            self.assert_is(False, SMALL, 0, 1, thing)
            self.assert_is(False, SMALL, 2, 2, thing)
            self.assert_is(False, APART, 0, 6, thing)
            self.assert_is(False, APART, 0, 3, (0, thing, 3) if thing != 1 and thing != 2 else thing)
            self.assert_is(False, SMALL, 0, 1, as_lists((0, thing, 1)))


if __name__ == "__main__":
    unittest.main()

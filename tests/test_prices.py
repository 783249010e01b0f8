"""[21] prices, and what are some."""

import unittest

from freshreach.roads import are_prices, prices
from tests.samples import APART, GREAT, LONGEST_NUMBER, SMALL, THINGS
from tests.samples import all_ways, long_of, pairs_of, tried_cuts


def prices_by_all_ways(plan, place, cuts):
    told = []
    for other in range(len(plan[0])):
        told.append(min([long_of(plan, way) for way in all_ways(plan, place, other, cuts)], default=None))
    return tuple(told)


class TestPrices(unittest.TestCase):
    def test_without_cuts(self):
        self.assertEqual(prices(SMALL, 0), (0, 1, 1))
        self.assertEqual(prices(SMALL, 2, cuts=()), (1, 1, 0))
        self.assertEqual(prices(GREAT, 0), (0, 6, 2, 1, 6, 9, 11, 12))
        self.assertEqual(prices(GREAT, 7), (12, 16, 12, 11, 6, 3, 1, 0))

    def test_places_without_a_way(self):
        self.assertEqual(prices(APART, 0), (0, 2, 2, 4, None, None, None))
        self.assertEqual(prices(APART, 5), (None, None, None, None, 3, 0, None))
        self.assertEqual(prices(APART, 6), (None, None, None, None, None, None, 0))

    def test_with_cuts(self):
        self.assertEqual(prices(SMALL, 0, cuts=((0, 1),)), (0, 2, 1))
        self.assertEqual(prices(SMALL, 0, cuts=((0, 1), (0, 2))), (0, None, None))
        self.assertEqual(prices(SMALL, 1, cuts=((0, 1), (0, 2))), (None, 0, 1))
        self.assertEqual(prices(APART, 3, cuts=((1, 3), (2, 3))), (9, 11, 11, 0, None, None, None))
        self.assertEqual(prices(GREAT, 3, cuts=pairs_of(GREAT)), (None, None, None, 0, None, None, None, None))

    def test_as_all_ways_tell(self):
        for plan in (SMALL, APART, GREAT):
            for cuts in tried_cuts(plan):
                for place in range(len(plan[0])):
                    told = prices(plan, place, cuts=cuts)
                    self.assertIs(type(told), tuple)
                    self.assertEqual(told, prices_by_all_ways(plan, place, cuts))


class TestArePrices(unittest.TestCase):
    def assert_are(self, answer, plan, place, thing, **cuts):
        self.assertIs(are_prices(plan, place, thing, **cuts), answer, (place, repr(thing)[:500], cuts))

    def test_the_prices_are(self):
        for plan in (SMALL, APART, GREAT):
            for cuts in tried_cuts(plan):
                for place in range(len(plan[0])):
                    self.assert_are(True, plan, place, prices_by_all_ways(plan, place, cuts), cuts=cuts)

    def test_of_what_is_told(self):
        self.assert_are(True, SMALL, 0, prices(SMALL, 0))
        self.assert_are(True, SMALL, 0, prices(SMALL, 0), cuts=())

    def test_with_one_place_otherwise(self):
        for plan in (SMALL, APART, GREAT):
            for cuts in tried_cuts(plan):
                for place in range(len(plan[0])):
                    self.check_otherwise(plan, place, cuts)

    def check_otherwise(self, plan, place, cuts):
        right = prices_by_all_ways(plan, place, cuts)
        for at, price in enumerate(right):
            others = (None, 0, 1, 2, 9, -1, LONGEST_NUMBER)
            if price is not None:
                others += (price + 1, price - 1, price + 9, price - 9, -price)
            for other in others:
                if other != price:
                    self.assert_are(False, plan, place, right[:at] + (other,) + right[at + 1:], cuts=cuts)

    def test_a_lot_of_places_by_as_much_more(self):
        self.assert_are(True, APART, 0, (0, 2, 2, 4, None, None, None))
        self.assert_are(False, APART, 0, (1, 3, 3, 5, None, None, None))
        self.assert_are(False, APART, 0, (0, 3, 3, 5, None, None, None))
        self.assert_are(False, APART, 0, (0, 1, 1, 3, None, None, None))
        self.assert_are(False, APART, 0, (-1, 1, 1, 3, None, None, None))
        # Whole lots without a way, with numbers that fit each of their roads.
        self.assert_are(False, APART, 0, (0, 2, 2, 4, 7, 10, None))
        self.assert_are(False, APART, 0, (0, 2, 2, 4, 7, 7, None))
        self.assert_are(False, APART, 0, (0, 2, 2, 4, 3, 0, None))
        self.assert_are(False, APART, 0, (0, 2, 2, 4, 0, 3, None))
        self.assert_are(False, APART, 0, (0, 2, 2, 4, None, None, 0))
        self.assert_are(False, APART, 0, (0, 2, 2, 4, None, None, 5))
        cuts = ((0, 1), (0, 2), (0, 3))
        self.assert_are(True, APART, 0, (0,) + (None,) * 6, cuts=cuts)
        for more in range(6):
            self.assert_are(False, APART, 0, (0, 2 + more, 2 + more, 4 + more, None, None, None), cuts=cuts)

    def test_a_cut_road_shows_nothing(self):
        self.assert_are(True, SMALL, 0, (0, 2, 1), cuts=((0, 1),))
        self.assert_are(False, SMALL, 0, (0, 1, 1), cuts=((0, 1),))
        self.assert_are(False, SMALL, 0, (0, 2, 1))
        self.assert_are(False, SMALL, 0, (0, 1, 1), cuts=pairs_of(SMALL))
        self.assert_are(True, SMALL, 0, (0, None, None), cuts=pairs_of(SMALL))

    def test_of_another_place(self):
        for plan in (SMALL, APART, GREAT):
            for place in range(len(plan[0])):
                for other in range(len(plan[0])):
                    self.assert_are(place == other, plan, other, prices_by_all_ways(plan, place, ()))

    def test_nothing_told_of_the_place_itself(self):
        self.assert_are(False, APART, 6, (None,) * 7)
        self.assert_are(False, APART, 6, (None,) * 6 + (1,))
        self.assert_are(False, SMALL, 0, (None, None, None))
        self.assert_are(False, SMALL, 0, (0, 0, 0))

    def test_wrong_lengths(self):
        for plan in (SMALL, APART, GREAT):
            for place in range(len(plan[0])):
                right = prices_by_all_ways(plan, place, ())
                for thing in (right[:-1], right[1:], right + (None,), right + (0,), right + (5,), right * 2, ()):
                    self.assert_are(False, plan, place, thing)

    def test_truths(self):
        self.assert_are(False, SMALL, 0, (False, 1, 1))
        self.assert_are(False, SMALL, 0, (0, True, 1))
        self.assert_are(False, SMALL, 0, (0, 1, True))
        self.assert_are(False, SMALL, 1, (True, False, True))
        self.assert_are(False, APART, 6, (None,) * 6 + (False,))
        self.assert_are(False, APART, 0, (0, 2, 2, 4, False, False, False))

    def test_lists_and_dicts(self):
        self.assert_are(False, SMALL, 0, [0, 1, 1])
        self.assert_are(False, SMALL, 0, {0: 0, 1: 1, 2: 1})
        self.assert_are(False, SMALL, 0, ((0, 1, 1),))
        self.assert_are(False, SMALL, 0, "011")
        self.assert_are(False, SMALL, 0, ("0", "1", "1"))

    def test_things_of_every_kind(self):
        for thing in THINGS:
            self.assert_are(False, SMALL, 0, thing)
            self.assert_are(False, APART, 6, thing)
            if thing != 1:
                self.assert_are(False, SMALL, 0, (0, thing, 1))
                self.assert_are(False, SMALL, 0, (0, 1, thing))
            if thing != 0:
                self.assert_are(False, SMALL, 0, (thing, 1, 1))
            if thing is not None:
                self.assert_are(False, APART, 6, (thing,) + (None,) * 5 + (0,))


if __name__ == "__main__":
    unittest.main()

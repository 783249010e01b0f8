"""What the functions of roads refuse, in which order, and [2] of them."""

import copy
import unittest

from freshreach.errors import NoCuts, NoPlace, NoPlan
from freshreach.roads import are_prices, is_least_way, least_long, least_way, prices
from tests.samples import APART, GREAT, LONGEST_NUMBER, SMALL, THINGS, as_lists, part_of, paths_of, put_in

# For each function: how it is called with a plan, two places (one alone where it takes one) and cuts.
CALLS = {
    "least_long": lambda plan, one, other, cuts: least_long(plan, one, other, cuts=cuts),
    "least_way": lambda plan, one, other, cuts: least_way(plan, one, other, cuts=cuts),
    "is_least_way": lambda plan, one, other, cuts: is_least_way(plan, one, other, (0, 1), cuts=cuts),
    "prices": lambda plan, one, other, cuts: prices(plan, one, cuts=cuts),
    "are_prices": lambda plan, one, other, cuts: are_prices(plan, one, (0, 1, 1), cuts=cuts),
}
OF_TWO = ("least_long", "least_way", "is_least_way")

NO_PLANS = THINGS + [
    SMALL[:4], SMALL + ((),), put_in(SMALL, (0,), ("house", "door", "cross")), put_in(SMALL, (1, 0, 2), 0),
    put_in(SMALL, (4, 0), 5), put_in(SMALL, (1, 0, 2), True), put_in(SMALL, (1,), list(SMALL[1])),
]

NO_CUTS_OF_APART = [thing for thing in THINGS if thing != ()] + [
    ((1, 2),),
    ((0, 4),),
    ((0, 7),),
    ((-1, 0),),
    ((0, 0),),
    ((0, LONGEST_NUMBER),),
    ((1, 0),),
    ((0, 1), (2, 0)),
    ((0, 1), (0, 1)),
    ((0, 1), (0, 2), (0, 2)),
    ((0, 2), (0, 1)),
    ((0, 1), (1, 3), (0, 2)),
    [(0, 1)],
    ([0, 1],),
    [[0, 1]],
    ((0, 1), [0, 2]),
    ((0, 1, 2),),
    ((0, 1), (0, 2, 2)),
    ((0,),),
    ((),),
    (0, 1),
    ((False, 1),),
    ((0, True),),
    ((False, True),),
    (("0", "1"),),
    ("01",),
    {(0, 1): True},
    ((0, None),),
    ((0, []),),
    (({}, 1),),
    ((0, 1), None),
    ((0, 1), (1, 2)),
    ((0, 1), (0, 2), (5, 4)),
]

NO_PLACES = [-1, -2, True, False, LONGEST_NUMBER, -LONGEST_NUMBER]
NO_PLACES += [thing for thing in THINGS if not isinstance(thing, int)]


class RefusalCase(unittest.TestCase):
    def assert_refused(self, error, name, *told):
        call = CALLS[name]
        with self.subTest(name=name, told=repr(told)[:300]):
            with self.assertRaises(ValueError) as caught:
                call(*told)
            self.assertIs(type(caught.exception), error)


class TestRefusals(RefusalCase):
    def test_no_plan(self):
        for name in CALLS:
            for plan in NO_PLANS:
                self.assert_refused(NoPlan, name, plan, 0, 1, ())

    def test_no_cuts(self):
        for name in CALLS:
            for cuts in NO_CUTS_OF_APART:
                self.assert_refused(NoCuts, name, APART, 0, 1, cuts)

    def test_cuts_that_only_another_plan_has(self):
        for name in CALLS:
            self.assert_refused(NoCuts, name, SMALL, 0, 1, ((0, 3),))
            self.assert_refused(NoCuts, name, put_in(SMALL, (1,), ()), 0, 1, ((0, 1),))

    def test_no_place(self):
        for name in CALLS:
            for plan in (SMALL, APART, GREAT):
                for place in NO_PLACES + [len(plan[0]), len(plan[0]) + 1]:
                    self.assert_refused(NoPlace, name, plan, place, 0, ())
        for name in OF_TWO:
            for plan in (SMALL, APART, GREAT):
                for place in NO_PLACES + [len(plan[0]), len(plan[0]) + 1]:
                    self.assert_refused(NoPlace, name, plan, 0, place, ())
                    self.assert_refused(NoPlace, name, plan, place, place, ())

    def test_the_last_place_is_one(self):
        for plan in (SMALL, APART, GREAT):
            last = len(plan[0]) - 1
            for name in CALLS:
                CALLS[name](plan, last, last, ())
                CALLS[name](plan, 0, last, ())

    def test_no_plan_ahead_of_all(self):
        for name in CALLS:
            for plan in (None, [], SMALL[:4], list(SMALL)):
                self.assert_refused(NoPlan, name, plan, 0, 1, ((0, 1), (0, 1)))
                self.assert_refused(NoPlan, name, plan, -1, True, ())
                self.assert_refused(NoPlan, name, plan, -1, None, None)

    def test_no_cuts_ahead_of_no_place(self):
        for name in CALLS:
            for cuts in (None, [], ((1, 0),), ((0, 1), (0, 1)), ((0, 1, 1),)):
                self.assert_refused(NoCuts, name, SMALL, -1, 1, cuts)
                self.assert_refused(NoCuts, name, SMALL, 3, 3, cuts)
                self.assert_refused(NoCuts, name, SMALL, True, None, cuts)
        for name in OF_TWO:
            self.assert_refused(NoCuts, name, SMALL, 0, 3, ((1, 0),))

    def test_with_right_cuts_and_no_place(self):
        for name in CALLS:
            self.assert_refused(NoPlace, name, SMALL, 3, 0, ((0, 1),))

    def test_refused_whatever_is_told_as_the_way_or_the_prices(self):
        for thing in THINGS:
            for told in ((None, 0, ()), (SMALL, 0, None), (SMALL, 3, ())):
                plan, place, cuts = told
                error = NoPlan if plan is None else NoCuts if cuts is None else NoPlace
                with self.assertRaises(error):
                    is_least_way(plan, 0, place, thing, cuts=cuts)
                with self.assertRaises(error):
                    are_prices(plan, place, thing, cuts=cuts)


class TestArguments(unittest.TestCase):
    def test_by_their_names(self):
        cuts = ((0, 1),)
        self.assertEqual(least_long(plan=SMALL, one=0, other=1), 1)
        self.assertEqual(least_long(cuts=cuts, other=1, one=0, plan=SMALL), 2)
        self.assertEqual(least_way(other=0, one=1, plan=SMALL), (1, 0))
        self.assertEqual(least_way(plan=SMALL, one=1, other=0, cuts=cuts), (1, 2, 0))
        self.assertIs(is_least_way(thing=(0, 1), plan=SMALL, one=0, other=1), True)
        self.assertIs(is_least_way(plan=SMALL, one=0, other=1, thing=(0, 1), cuts=cuts), False)
        self.assertEqual(prices(place=1, plan=SMALL), (1, 0, 1))
        self.assertEqual(prices(plan=SMALL, place=1, cuts=cuts), (2, 0, 1))
        self.assertIs(are_prices(thing=(1, 0, 1), place=1, plan=SMALL), True)
        self.assertIs(are_prices(plan=SMALL, place=1, thing=(1, 0, 1), cuts=cuts), False)

    def test_cuts_by_their_name_alone(self):
        for call in (
            lambda: least_long(SMALL, 0, 1, ()),
            lambda: least_way(SMALL, 0, 1, ()),
            lambda: is_least_way(SMALL, 0, 1, (0, 1), ()),
            lambda: prices(SMALL, 0, ()),
            lambda: are_prices(SMALL, 0, (0, 1, 1), ()),
        ):
            self.assertRaises(TypeError, call)

    def test_asked_again(self):
        asked = [(SMALL, 0, 1, ()), (SMALL, 0, 1, ((0, 1),)), (APART, 3, 0, ()), (APART, 0, 6, ()), (GREAT, 7, 0, ())]
        for name in CALLS:
            first = [CALLS[name](*told) for told in asked]
            self.assertEqual([CALLS[name](*told) for told in asked], first)
            self.assertEqual([CALLS[name](*told) for told in asked[::-1]], first[::-1])

    def test_the_same_behind_a_refusal(self):
        for name in CALLS:
            first = CALLS[name](APART, 0, 3, ())
            for told in ((None, 0, 1, ()), (APART, 0, 3, ((1, 0),)), (APART, 9, 9, ((0, 1),))):
                with self.assertRaises(ValueError):
                    CALLS[name](*told)
            self.assertEqual(CALLS[name](APART, 0, 3, ()), first)


class TestNothingIsChanged(unittest.TestCase):
    def check(self, call, *told):
        kept = copy.deepcopy(told)
        try:
            call(*told)
        except ValueError:
            pass
        self.assertEqual(repr(told), repr(kept))

    def test_of_what_is_refused_and_of_what_is_not(self):
        plans = [SMALL, as_lists(SMALL)]
        plans += [put_in(SMALL, path, as_lists(part_of(SMALL, path))) for path in paths_of(SMALL)]
        all_cuts = [(), ((0, 1),), [(0, 1)], [[0, 2], [0, 1]], ([0, 1],), {(0, 1): []}]
        for name in CALLS:
            for plan in plans:
                self.check(CALLS[name], plan, 0, 1, ())
            for cuts in all_cuts:
                self.check(CALLS[name], SMALL, 0, 1, cuts)
            for place in (0, 3, [0], {0: 0}):
                self.check(CALLS[name], SMALL, place, place, ())

    def test_of_ways_and_prices(self):
        for thing in THINGS + [[0, 1], [1, 0, 1], (0, [1], 1), ([0], 1)]:
            self.check(lambda thing: is_least_way(SMALL, 0, 1, thing), thing)
            self.check(lambda thing: are_prices(SMALL, 0, thing), thing)

    def test_what_is_handed_in_may_be_changed_later(self):
        way, told = [0, 1], [0, 1, 1]
        self.assertIs(is_least_way(SMALL, 0, 1, way), False)
        self.assertIs(are_prices(SMALL, 0, told), False)
        way.append(2)
        told.clear()
        self.assertIs(is_least_way(SMALL, 0, 1, (0, 1)), True)
        self.assertIs(are_prices(SMALL, 0, (0, 1, 1)), True)


if __name__ == "__main__":
    unittest.main()

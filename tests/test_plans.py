"""[10] plans."""

import copy
import unittest

from freshreach.plans import is_plan
from tests.samples import GREAT, LONGEST_NUMBER, SMALL, THINGS, as_lists, part_of, paths_of, put_in

NO_WORDS = ("", "abcdefghi", "A", "aB", "Ab", "a b", " a", "a ", "a\n", "a1", "-", "a-b", "a_b", "`", "{", "a{", "~")


def is_fixed_row(path):
    """Whether the part at the path of a plan has just as many parts as told."""
    return path == () or path == (4,) or (len(path) == 2 and path[0] in (1, 2, 3))


class PlanCase(unittest.TestCase):
    def assert_plan(self, thing):
        self.assertIs(is_plan(thing), True, repr(thing)[:500])

    def assert_no_plan(self, thing):
        self.assertIs(is_plan(thing), False, repr(thing)[:500])

    def assert_bounds(self, plan, path, right, wrong):
        for part in right:
            self.assert_plan(put_in(plan, path, part))
        for part in wrong:
            self.assert_no_plan(put_in(plan, path, part))


class TestRightPlans(PlanCase):
    def test_of_three_and_of_eight_places(self):
        self.assert_plan(SMALL)
        self.assert_plan(GREAT)

    def test_of_each_number_of_places(self):
        for more in range(6):
            self.assert_plan(put_in(SMALL, (0,), SMALL[0] + ("cross",) * more))
            self.assert_plan(put_in(SMALL, (0,), SMALL[0] + ("door",) * more))
            self.assert_plan(put_in(SMALL, (0,), SMALL[0] + ("house",) * more))

    def test_roles_in_any_order(self):
        self.assert_plan((("book", "cross", "door", "house"), (), (("a", 3, 1),), ((3, "a", "a", 1),), SMALL[4]))

    def test_handed_in_by_name(self):
        self.assertIs(is_plan(thing=SMALL), True)
        self.assertIs(is_plan(thing=0), False)

    def test_asked_again(self):
        for thing in (SMALL, GREAT, SMALL[:4]):
            self.assertIs(is_plan(thing), is_plan(thing))


class TestRoles(PlanCase):
    def test_too_few_and_too_many_places(self):
        roads = ((0, 1, 1),)
        self.assert_no_plan((("house", "door"),) + (roads,) + SMALL[2:])
        self.assert_no_plan((("house", "book"),) + (roads,) + SMALL[2:])
        self.assert_no_plan((("house",),) + ((),) + SMALL[2:])
        self.assert_no_plan(put_in(SMALL, (0,), ()))
        self.assert_no_plan(put_in(SMALL, (0,), SMALL[0] + ("cross",) * 6))
        self.assert_no_plan(put_in(GREAT, (0,), GREAT[0] + ("cross",)))

    def test_just_one_book(self):
        self.assert_no_plan(put_in(SMALL, (0,), ("house", "door", "cross")))
        self.assert_no_plan(put_in(SMALL, (0,), ("house", "door", "book", "book")))
        self.assert_no_plan(put_in(GREAT, (0, 3), "book"))
        self.assert_no_plan(put_in(GREAT, (0, 2), "cross"))

    def test_at_least_one_door(self):
        self.assert_no_plan(put_in(SMALL, (0,), ("house", "cross", "book")))
        self.assert_no_plan(put_in(SMALL, (0,), ("house", "house", "book")))

    def test_at_least_one_house(self):
        self.assert_no_plan(put_in(SMALL, (0,), ("cross", "door", "book")))
        self.assert_no_plan((("cross", "door", "book"), (), (), (), SMALL[4]))

    def test_other_roles(self):
        for role in ("House", "HOUSE", "houses", "hous", "", "yard", "house ", "c", "door\n"):
            self.assert_no_plan(put_in(SMALL, (0,), SMALL[0] + (role,)))
            self.assert_no_plan(put_in(GREAT, (0, 3), role))


class TestRoads(PlanCase):
    def test_none_to_fourteen(self):
        for many in range(15):
            self.assert_plan(put_in(GREAT, (1,), GREAT[1][:many]))
        self.assert_no_plan(put_in(GREAT, (1,), ((0, 1, 9), (0, 2, 2), (0, 3, 1), (0, 4, 1)) + GREAT[1][3:]))

    def test_places_of_a_road(self):
        self.assert_bounds(GREAT, (1, 13), ((6, 7, 1),), ((6, 8, 1), (7, 8, 1), (8, 9, 1)))
        self.assert_bounds(SMALL, (1,), (((0, 2, 1),),), (((0, 3, 1),), ((2, 3, 1),), ((-1, 2, 1),), ((-2, -1, 1),)))
        self.assert_no_plan(put_in(SMALL, (1,), ((0, LONGEST_NUMBER, 1),)))

    def test_turned_about_or_the_same(self):
        for road in ((1, 0, 1), (2, 1, 1), (0, 0, 1), (1, 1, 1), (2, 2, 1)):
            self.assert_no_plan(put_in(SMALL, (1,), (road,)))

    def test_longs(self):
        for at in range(3):
            self.assert_bounds(SMALL, (1, at, 2), range(1, 10), (0, 10, -1, LONGEST_NUMBER, -LONGEST_NUMBER))

    def test_rise(self):
        for roads in (
            ((0, 2, 1), (0, 1, 1)),
            ((0, 2, 1), (0, 1, 5)),
            ((1, 2, 1), (0, 1, 1)),
            ((1, 2, 1), (0, 2, 9)),
            ((0, 1, 1), (1, 2, 1), (0, 2, 1)),
        ):
            self.assert_no_plan(put_in(SMALL, (1,), roads))
            self.assert_plan(put_in(SMALL, (1,), tuple(sorted(roads))))

    def test_no_two_of_the_same_places(self):
        self.assert_no_plan(put_in(SMALL, (1,), ((0, 1, 1), (0, 1, 1))))
        self.assert_no_plan(put_in(SMALL, (1,), ((0, 1, 1), (0, 1, 2))))
        self.assert_no_plan(put_in(SMALL, (1,), ((0, 1, 2), (0, 1, 1))))
        self.assert_no_plan(put_in(SMALL, (1,), ((0, 1, 1), (0, 2, 3), (0, 2, 4))))
        self.assert_no_plan(put_in(SMALL, (1,), ((0, 1, 1), (1, 0, 1))))


class TestNames(PlanCase):
    def test_one_to_four(self):
        for many in range(1, 5):
            self.assert_plan(put_in(GREAT, (2,), GREAT[2][:many]))
        self.assert_no_plan(put_in(GREAT, (2,), ()))
        self.assert_no_plan(put_in(GREAT, (2,), (("a", 7, 99), ("aa", 0, 1)) + GREAT[2][1:]))

    def test_words(self):
        self.assert_bounds(SMALL, (2, 0, 0), ("a", "z", "az", "abcdefgh", "mmmmmmmm", "house"), NO_WORDS)

    def test_houses(self):
        for path in ((2, 0, 1), (2, 3, 1)):
            self.assert_bounds(GREAT, path, (0, 4, 7), (1, 2, 3, 5, 6, 8, -1, -4, LONGEST_NUMBER))

    def test_ages(self):
        for at in range(4):
            self.assert_bounds(GREAT, (2, at, 2), (0, 1, 98, 99), (-1, 100, LONGEST_NUMBER, -LONGEST_NUMBER))

    def test_rise_and_are_unlike(self):
        for names in (
            (("b", 0, 0), ("a", 0, 0)),
            (("b", 0, 0), ("aa", 0, 0)),
            (("b", 0, 0), ("a", 4, 9)),
            (("ab", 0, 0), ("a", 0, 0)),
            (("a", 0, 0), ("c", 0, 0), ("b", 0, 0)),
        ):
            self.assert_no_plan(put_in(GREAT, (2,), names))
            self.assert_plan(put_in(GREAT, (2,), tuple(sorted(names))))
        for names in (
            (("a", 0, 0), ("a", 0, 0)),
            (("a", 0, 0), ("a", 0, 1)),
            (("a", 0, 5), ("a", 4, 0)),
            (("a", 0, 0), ("b", 0, 0), ("b", 4, 0)),
        ):
            self.assert_no_plan(put_in(GREAT, (2,), names))


class TestPages(PlanCase):
    def test_one_to_eight(self):
        for many in range(1, 9):
            self.assert_plan(put_in(GREAT, (3,), GREAT[3][:many]))
        self.assert_no_plan(put_in(GREAT, (3,), ()))
        self.assert_no_plan(put_in(GREAT, (3,), GREAT[3] + ((7, "d", "", 0),)))

    def test_houses(self):
        self.assert_bounds(GREAT, (3, 0, 0), (0,), (1, 2, 3, -1, -4))
        self.assert_bounds(GREAT, (3, 7, 0), (7,), (8, 1, -1, LONGEST_NUMBER))
        self.assert_bounds(GREAT, (3,), (((4, "a", "", 0),),), [((at, "a", "", 0),) for at in (1, 2, 3, 5, 6, 8, -1)])

    def test_words(self):
        self.assert_bounds(SMALL, (3, 0, 1), ("a", "z", "az", "abcdefgh", "mmmmmmmm", "house"), NO_WORDS)

    def test_texts(self):
        self.assert_bounds(
            SMALL, (3, 0, 2),
            ("", "a", "z", "abcdefghi", "abcdefghijklmno", "abcdefghijklmnop", "z" * 16),
            ("z" * 17, "A", "aB", "Abcdefghijklmnop", " ", "a b", "a1", "-", "a\n", "`", "{", "z" * 3000),
        )

    def test_ages(self):
        for at in range(8):
            self.assert_bounds(GREAT, (3, at, 3), (0, 1, 98, 99), (-1, 100, LONGEST_NUMBER, -LONGEST_NUMBER))

    def test_rise_and_are_unlike(self):
        for pages in (
            ((0, "b", "", 0), (0, "a", "", 0)),
            ((0, "b", "", 0), (0, "a", "z", 9)),
            ((4, "a", "", 0), (0, "a", "", 0)),
            ((4, "a", "", 0), (0, "b", "z", 9)),
            ((0, "a", "", 0), (4, "b", "", 0), (4, "a", "", 0)),
        ):
            self.assert_no_plan(put_in(GREAT, (3,), pages))
            self.assert_plan(put_in(GREAT, (3,), tuple(sorted(pages))))
        for pages in (
            ((0, "a", "", 0), (0, "a", "", 0)),
            ((0, "a", "", 0), (0, "a", "", 1)),
            ((0, "a", "a", 0), (0, "a", "b", 0)),
            ((0, "a", "a", 0), (4, "b", "a", 0), (4, "b", "b", 0)),
        ):
            self.assert_no_plan(put_in(GREAT, (3,), pages))

    def test_of_several_houses_may_be_alike(self):
        self.assert_plan(put_in(GREAT, (3,), ((0, "a", "b", 1), (4, "a", "b", 1), (7, "a", "b", 1))))


class TestBounds(PlanCase):
    def test_each(self):
        far = (LONGEST_NUMBER, -LONGEST_NUMBER, -1)
        for plan in (SMALL, GREAT):
            self.assert_bounds(plan, (4, 0), (1, 2, 3, 4, 16), (0, *range(5, 16), 17, 20, 32) + far)
            self.assert_bounds(plan, (4, 1), range(1, 41), (0, 41) + far)
            self.assert_bounds(plan, (4, 2), range(1, 61), (0, 61) + far)
            self.assert_bounds(plan, (4, 3), range(1, 5), (0, 5, 16) + far)
            self.assert_bounds(plan, (4, 4), range(1, 5), (0, 5, 16) + far)


class TestKinds(PlanCase):
    def test_truths_in_the_place_of_whole_numbers(self):
        for plan in (SMALL, GREAT):
            for path in paths_of(plan):
                if isinstance(part_of(plan, path), int):
                    self.assert_no_plan(put_in(plan, path, True))
                    self.assert_no_plan(put_in(plan, path, False))

    def test_a_truth_that_equals_what_is_right(self):
        roles = ("house", "house", "door", "book")
        plan = (roles, ((0, 1, 1),), (("a", 1, 1), ("b", 0, 0)), ((0, "a", "", 0), (1, "a", "", 1)), SMALL[4])
        self.assert_plan(plan)
        tried = 0
        for path in paths_of(plan):
            if part_of(plan, path) in (0, 1):
                tried += 1
                self.assert_no_plan(put_in(plan, path, bool(part_of(plan, path))))
        self.assertEqual(tried, 16)

    def test_lists_in_the_place_of_tuples(self):
        for plan in (SMALL, GREAT):
            for path in paths_of(plan):
                if isinstance(part_of(plan, path), tuple):
                    self.assert_no_plan(put_in(plan, path, list(part_of(plan, path))))
                    self.assert_no_plan(put_in(plan, path, as_lists(part_of(plan, path))))

    def test_dicts_in_the_place_of_tuples(self):
        for path in paths_of(GREAT):
            if isinstance(part_of(GREAT, path), tuple):
                self.assert_no_plan(put_in(GREAT, path, dict(enumerate(part_of(GREAT, path)))))

    def test_great_letters(self):
        for plan in (SMALL, GREAT):
            for path in paths_of(plan):
                part = part_of(plan, path)
                if isinstance(part, str) and part:
                    self.assert_no_plan(put_in(plan, path, part.upper()))
                    self.assert_no_plan(put_in(plan, path, part[0].upper() + part[1:]))
                    self.assert_no_plan(put_in(plan, path, part[:-1] + part[-1].upper()))

    def test_texts_in_the_place_of_whole_numbers_and_the_other_way(self):
        for path in paths_of(GREAT):
            part = part_of(GREAT, path)
            if isinstance(part, int):
                self.assert_no_plan(put_in(GREAT, path, str(part)))
            if isinstance(part, str):
                self.assert_no_plan(put_in(GREAT, path, 1))
                self.assert_no_plan(put_in(GREAT, path, tuple(part)))

    def test_fewer_and_more_parts_at_each_depth(self):
        for plan in (SMALL, GREAT):
            for path in filter(is_fixed_row, paths_of(plan)):
                part = part_of(plan, path)
                for other in (part[:-1], part[1:], part + part[-1:], part[:1] + part, part + ((),), part + (0,), ()):
                    self.assert_no_plan(put_in(plan, path, other))

    def test_things_of_every_kind_as_a_plan(self):
        for thing in THINGS:
            self.assert_no_plan(thing)

    def test_things_of_every_kind_as_each_part(self):
        for plan in (SMALL, GREAT):
            for path in paths_of(plan):
                for thing in THINGS:
                    self.check_part(plan, path, thing)

    def check_part(self, plan, path, thing):
        changed = put_in(plan, path, thing)
        if path == (1,) and thing == ():
            self.assert_plan(changed)
        elif type(thing) is not type(part_of(plan, path)) or isinstance(thing, tuple):
            self.assert_no_plan(changed)
        else:
            self.assertIn(is_plan(changed), (True, False))
            self.assertIsInstance(is_plan(changed), bool)

    def test_nothing_is_changed(self):
        things = THINGS + [put_in(GREAT, path, as_lists(part_of(GREAT, path))) for path in paths_of(GREAT)]
        for thing in [SMALL, GREAT] + things:
            kept = copy.deepcopy(thing)
            is_plan(thing)
            self.assertEqual(repr(thing), repr(kept))


if __name__ == "__main__":
    unittest.main()

"""[41] what is kept of the book."""

import copy
import itertools
import unittest

from freshreach.books import NameKeep
from freshreach.errors import NoMoment, NoName, NoNumber, NoPlace
from tests.samples import LONGEST_NUMBER, NO_MOMENTS, NO_WORDS, THINGS, error_of, no_wholes


class TestPut(unittest.TestCase):
    def test_what_was_told_last_is_kept(self):
        keep = NameKeep()
        self.assertIsNone(keep.put("a", 1, 10, 5))
        self.assertEqual(keep.rows(), (("a", 1, 10, 5),))
        self.assertIsNone(keep.put("a", 2, 20, 6))
        self.assertEqual(keep.rows(), (("a", 2, 20, 6),))
        self.assertIsNone(keep.put("a", 3, 30, 5))
        self.assertEqual(keep.rows(), (("a", 2, 20, 6),))

    def test_of_two_told_at_one_moment_the_last_put(self):
        keep = NameKeep()
        for house, age in ((5, 50), (1, 10), (1, 99), (7, 0)):
            keep.put("a", house, age, 5)
            self.assertEqual(keep.rows(), (("a", house, age, 5),))

    def test_what_is_no_more_good_is_later_all_the_same(self):
        keep = NameKeep()
        keep.put("a", 1, 0, 50)
        keep.put("a", 2, 99, 49)
        self.assertEqual(keep.rows(), (("a", 1, 0, 50),))
        self.assertIsNone(keep.get("a", 51))
        keep.put("a", 2, 99, 51)
        self.assertEqual(keep.get("a", 51), (2, 51))

    def test_names_apart(self):
        keep = NameKeep()
        keep.put("a", 1, 10, 50)
        keep.put("b", 2, 20, 3)
        keep.put("b", 3, 20, 2)
        self.assertEqual(keep.get("a", 50), (1, 50))
        self.assertEqual(keep.get("b", 3), (2, 3))

    def test_all_short_runs(self):
        rows = [(name, house, 9, at) for name, house, at in itertools.product("ab", (0, 7), (0, 1, 2))]
        for more in itertools.product(rows, repeat=3):
            keep = NameKeep()
            for row in more:
                keep.put(*row)
            kept = []
            for name in "ab":
                told = [row for row in more if row[0] == name]
                kept += [row for row in told if row[3] == max([row[3] for row in told])][-1:]
            self.assertEqual(keep.rows(), tuple(kept), more)


class TestGet(unittest.TestCase):
    def test_good_as_long_as_its_age(self):
        for age, at in itertools.product(range(100), (0, 1, 40)):
            keep = NameKeep()
            keep.put("a", 3, age, at)
            self.assertEqual(keep.get("a", at), (3, at))
            self.assertEqual(keep.get("a", at + age), (3, at))
            self.assertIsNone(keep.get("a", at + age + 1))
            self.assertIsNone(keep.get("a", at + age + 2))
            self.assertIsNone(keep.get("a", LONGEST_NUMBER))
            if at > 0:
                self.assertIsNone(keep.get("a", at - 1))
                self.assertIsNone(keep.get("a", 0))

    def test_moments_may_fall(self):
        keep = NameKeep()
        keep.put("a", 3, 2, 4)
        self.assertEqual([keep.get("a", now) for now in (9, 7, 6, 5, 4, 3, 0, 6, 4)],
                         [None, None, (3, 4), (3, 4), (3, 4), None, None, (3, 4), (3, 4)])
        keep.put("b", 3, 2, 0)
        self.assertEqual(keep.get("b", 1), (3, 0))

    def test_nothing_kept(self):
        keep = NameKeep()
        self.assertIsNone(keep.get("a", 0))
        keep.put("a", 3, 99, 0)
        for name in ("b", "aa", "abcdefgh"):
            self.assertIsNone(keep.get(name, 0))

    def test_it_turns_nothing(self):
        keep = NameKeep()
        keep.put("a", 3, 2, 4)
        for now in (99, 0, 6, 7):
            keep.get("a", now)
            keep.get("b", now)
        self.assertEqual(keep.rows(), (("a", 3, 2, 4),))
        self.assertEqual(keep.get("a", 6), (3, 4))


class TestRows(unittest.TestCase):
    def test_none_at_first(self):
        self.assertEqual(NameKeep().rows(), ())

    def test_they_rise(self):
        rows = (("a", 7, 0, 9), ("ab", 0, 99, 0), ("abcdefgh", 3, 5, 7), ("b", 2, 1, 0), ("zzzzzzzz", 1, 1, 1))
        for more in itertools.permutations(rows):
            keep = NameKeep()
            for row in more:
                keep.put(*row)
            self.assertEqual(keep.rows(), rows)

    def test_many_names(self):
        keep = NameKeep()
        names = ["".join(letters) for letters in itertools.product("abc", repeat=4)]
        for name in names[::-1]:
            keep.put(name, 1, 2, 3)
        self.assertEqual(keep.rows(), tuple([(name, 1, 2, 3) for name in names]))

    def test_good_or_not(self):
        keep = NameKeep()
        keep.put("a", 3, 0, 0)
        keep.put("b", 4, 0, LONGEST_NUMBER)
        self.assertIsNone(keep.get("a", 5))
        self.assertIsNone(keep.get("b", 5))
        self.assertEqual(keep.rows(), (("a", 3, 0, 0), ("b", 4, 0, LONGEST_NUMBER)))


class TestRefusals(unittest.TestCase):
    def test_bounds(self):
        for name, house, age, at in itertools.product(
            ("a", "z", "abcdefgh"), (0, 7), (0, 99), (0, 1, LONGEST_NUMBER)
        ):
            keep = NameKeep()
            keep.put(name, house, age, at)
            self.assertEqual(keep.rows(), ((name, house, age, at),))
            self.assertEqual(keep.get(name, at), (house, at))

    def test_of_put(self):
        keep = NameKeep()
        for name in NO_WORDS:
            self.assertIs(error_of(keep.put, name, 0, 0, 0), NoName, repr(name)[:300])
        for house in no_wholes(0, 7):
            self.assertIs(error_of(keep.put, "a", house, 0, 0), NoPlace, repr(house)[:300])
        for age in no_wholes(0, 99):
            self.assertIs(error_of(keep.put, "a", 0, age, 0), NoNumber, repr(age)[:300])
        for at in NO_MOMENTS:
            self.assertIs(error_of(keep.put, "a", 0, 0, at), NoMoment, repr(at)[:300])
        self.assertEqual(keep.rows(), ())

    def test_of_get(self):
        for keep in (NameKeep(), self.with_two()):
            for name in NO_WORDS:
                self.assertIs(error_of(keep.get, name, 0), NoName, repr(name)[:300])
                self.assertIs(error_of(keep.get, name, -1), NoName, repr(name)[:300])
            for now in NO_MOMENTS:
                self.assertIs(error_of(keep.get, "a", now), NoMoment, repr(now)[:300])
                self.assertIs(error_of(keep.get, "c", now), NoMoment, repr(now)[:300])

    def test_their_order(self):
        for name, house, age, at in itertools.product(("a", "A", None, []), (1, 8, []), (1, 100, []), (1, -1, [])):
            due = NoName if name != "a" else NoPlace if house != 1 else NoNumber if age != 1 else None
            if due is None and at != 1:
                due = NoMoment
            self.assertIs(error_of(NameKeep().put, name, house, age, at), due)

    def with_two(self):
        keep = NameKeep()
        keep.put("b", 3, 5, 4)
        keep.put("a", 2, 99, 0)
        return keep

    def test_behind_a_refusal_all_is_as_ahead_of_it(self):
        refused = [
            lambda keep: keep.put("A", 1, 1, 50), lambda keep: keep.put("a", 8, 1, 50),
            lambda keep: keep.put("a", 1, 100, 50), lambda keep: keep.put("a", 1, 1, -1),
            lambda keep: keep.put("c", 1, 1, True), lambda keep: keep.put("c", None, 1, 0),
            lambda keep: keep.get("A", 0), lambda keep: keep.get("a", -1), lambda keep: keep.get("c", None),
        ]
        for more in itertools.product(refused, repeat=2):
            keep = self.with_two()
            for call in more:
                self.assertIsNotNone(error_of(call, keep))
            self.assertEqual(keep.rows(), (("a", 2, 99, 0), ("b", 3, 5, 4)))
            self.assertEqual([keep.get("b", now) for now in (3, 4, 9, 10)], [None, (3, 4), (3, 4), None])
            self.assertIsNone(keep.get("c", 0))


class TestArguments(unittest.TestCase):
    def test_by_their_names(self):
        keep = NameKeep()
        self.assertIsNone(keep.put(at=4, age=3, house=2, name="a"))
        self.assertEqual(keep.get(now=5, name="a"), (2, 4))

    def test_kinds_of_what_is_told(self):
        keep = NameKeep()
        keep.put("a", 2, 3, 4)
        self.assertIs(type(keep.get("a", 4)), tuple)
        self.assertIs(type(keep.rows()), tuple)
        self.assertIs(type(keep.rows()[0]), tuple)

    def test_what_is_handed_in_is_not_changed(self):
        keep = NameKeep()
        for thing in THINGS:
            kept = copy.deepcopy(thing)
            for told in (("a", 0, 0, thing), ("a", 0, thing, 0), ("a", thing, 0, 0), (thing, 0, 0, 0)):
                error_of(keep.put, *told)
            error_of(keep.get, thing, 0)
            error_of(keep.get, "a", thing)
            self.assertEqual(repr(thing), repr(kept))

    def test_two_keeps_have_nothing_in_common(self):
        one, other = NameKeep(), NameKeep()
        one.put("a", 2, 3, 4)
        self.assertEqual(other.rows(), ())

    def test_methods_stand_in_the_class_itself(self):
        for name in ("put", "get", "rows"):
            self.assertIn(name, vars(NameKeep))


if __name__ == "__main__":
    unittest.main()

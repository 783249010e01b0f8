"""[60] near keeps."""

import copy
import itertools
import unittest

from freshreach.errors import NoEntry, NoKey, NoMoment, NoNumber
from freshreach.keeps import Keep
from tests.samples import LONGEST_NUMBER, NO_LETTERS, NO_MOMENTS, NO_WORDS, STRANGE_THINGS, THINGS, error_of, no_wholes

A, B, C, D, E = (0, "a"), (0, "b"), (1, "a"), (7, "zzzzzzzz"), (7, "a")
SIXTEEN = "abcdefghijklmnop"

NO_KEYS = THINGS + STRANGE_THINGS + [
    [0, "a"], (0,), ("a",), (0, "a", 0), ("a", 0), (-1, "a"), (8, "a"), (LONGEST_NUMBER, "a"), (True, "a"),
    (False, "a"), (None, "a"), ("0", "a"), ((0,), "a"), ([], "a"), {0: "a"}, {"house": 0, "page": "a"}, "0a",
]
NO_KEYS += [(0, word) for word in NO_WORDS]

NO_ENTRIES = THINGS + STRANGE_THINGS + [
    [1, "x", 9, 3], (1, "x", 9), (1, "x", 9, 3, 0), ("x", 1, 9, 3), {0: 1, 1: "x", 2: 9, 3: 3},
]
NO_ENTRIES += [(version, "x", 9, 3) for version in no_wholes(1)]
NO_ENTRIES += [(1, text, 9, 3) for text in NO_LETTERS]
NO_ENTRIES += [(1, "x", age, 3) for age in no_wholes(0, 99)]
NO_ENTRIES += [(1, "x", 9, at) for at in NO_MOMENTS]


def entry(version=1, at=0, text="x", age=9):
    return version, text, age, at


class PlainKeep:
    """What [60] says, by a list of rows [key, entry, used]."""

    def __init__(self, room):
        self.room = room
        self.kept = []

    def of(self, key):
        rows = [row for row in self.kept if row[0] == key]
        return rows[0] if rows else None

    def put(self, key, entry, now):
        elder = self.of(key)
        if elder is not None:
            if elder[1][0] > entry[0]:
                return
            if elder[1][0] == entry[0] and elder[1][3] > entry[3]:
                return
            self.kept.remove(elder)
        if len(self.kept) == self.room:
            self.kept.sort(key=lambda row: (row[2], row[0]))
            self.kept.pop(0)
        self.kept.append([key, entry, now])

    def get(self, key, now):
        row = self.of(key)
        if row is None:
            return None
        row[2] = now
        return row[1]

    def again(self, key, version, age, at, now):
        row = self.of(key)
        if row is None or row[1][0] != version:
            return False
        if not row[1][3] > at:
            row[1] = (version, row[1][1], age, at)
        return True

    def rows(self):
        return tuple(sorted([tuple(row) for row in self.kept]))


class TestMade(unittest.TestCase):
    def test_rooms(self):
        for room in (1, 2, 3, 4):
            keep = Keep(room)
            for many, key in enumerate((A, B, C, D, E)):
                keep.put(key, entry(), many)
                self.assertEqual(len(keep.rows()), min(many + 1, room))

    def test_no_number(self):
        for room in no_wholes(1, 4):
            self.assertIs(error_of(Keep, room), NoNumber, repr(room)[:300])

    def test_empty_at_first(self):
        self.assertEqual(Keep(1).rows(), ())
        self.assertIsNone(Keep(1).get(A, 0))


class TestPut(unittest.TestCase):
    def test_an_entry_is_kept(self):
        keep = Keep(4)
        for at, key in enumerate((D, A, C, B)):
            self.assertIsNone(keep.put(key, entry(at + 1), at))
        rows = ((A, entry(2), 1), (B, entry(4), 3), (C, entry(3), 2), (D, entry(1), 0))
        self.assertEqual(keep.rows(), rows)
        self.assertEqual(keep.get(C, 9), entry(3))

    def test_in_the_place_of_the_elder_one(self):
        for elder, newer in (
            (entry(1, 5), entry(2, 5)), (entry(1, 5), entry(2, 0)), (entry(1, 5), entry(1, 6)),
            (entry(1, 5), entry(1, 5, "y", 3)), (entry(3, 5), entry(LONGEST_NUMBER, 0)),
        ):
            keep = Keep(1)
            keep.put(A, elder, 1)
            keep.put(A, newer, 2)
            self.assertEqual(keep.rows(), ((A, newer, 2),))

    def test_not_where_the_elder_one_is_newer(self):
        for elder, newer in (
            (entry(2, 5), entry(1, 5)), (entry(2, 5), entry(1, 9)), (entry(2, 5), entry(2, 4)),
            (entry(2, 5), entry(2, 0)), (entry(LONGEST_NUMBER, 0), entry(LONGEST_NUMBER - 1, 9)),
        ):
            keep = Keep(1)
            keep.put(A, elder, 1)
            self.assertIsNone(keep.put(A, newer, 2))
            self.assertEqual(keep.rows(), ((A, elder, 1),))

    def test_what_is_not_kept_uses_nothing(self):
        keep = Keep(2)
        keep.put(A, entry(2), 0)
        keep.put(B, entry(), 1)
        keep.put(A, entry(1), 5)
        keep.put(C, entry(), 6)
        self.assertEqual(keep.rows(), ((B, entry(), 1), (C, entry(), 6)))

    def test_the_one_used_longest_ago_goes(self):
        for used in itertools.permutations(range(4)):
            keep = Keep(4)
            keys = sorted([A, B, C, D])
            for moment in range(4):
                keep.put(keys[used.index(moment)], entry(), moment)
            keep.put(E, entry(), 4)
            left = sorted([key for key in keys + [E] if key != keys[used.index(0)]])
            self.assertEqual([row[0] for row in keep.rows()], left)

    def test_of_several_the_one_of_the_least_key(self):
        for order in itertools.permutations((A, B, C)):
            keep = Keep(3)
            for key in order:
                keep.put(key, entry(), 5)
            keep.put(E, entry(), 5)
            self.assertEqual([row[0] for row in keep.rows()], [B, C, E])
            keep.put(D, entry(), 5)
            self.assertEqual([row[0] for row in keep.rows()], [C, E, D])

    def test_never_the_one_that_is_put(self):
        keep = Keep(1)
        keep.put(E, entry(), 3)
        keep.put(A, entry(), 3)
        self.assertEqual(keep.rows(), ((A, entry(), 3),))
        keep.put(C, entry(), 3)
        self.assertEqual(keep.rows(), ((C, entry(), 3),))

    def test_another_one_of_a_key_takes_no_room(self):
        keep = Keep(2)
        keep.put(A, entry(), 0)
        keep.put(B, entry(), 0)
        keep.put(B, entry(2), 1)
        self.assertEqual(keep.rows(), ((A, entry(), 0), (B, entry(2), 1)))

    def test_it_is_used_then(self):
        keep = Keep(2)
        keep.put(A, entry(), 0)
        keep.put(B, entry(), 1)
        keep.put(A, entry(1, 1), 2)
        keep.put(C, entry(), 3)
        self.assertEqual([row[0] for row in keep.rows()], [A, C])

    def test_an_entry_may_be_of_any_moment(self):
        keep = Keep(1)
        keep.put(A, entry(1, LONGEST_NUMBER), 0)
        self.assertEqual(keep.rows(), ((A, entry(1, LONGEST_NUMBER), 0),))

    def test_bounds_of_keys_and_entries(self):
        for key in itertools.product(range(8), ("a", "z", "abcdefgh")):
            keep = Keep(1)
            keep.put(key, entry(), 0)
            self.assertEqual(keep.get(key, 0), entry())
        for many in range(17):
            Keep(1).put(A, (1, SIXTEEN[:many], 0, 0), 0)
        for version, age, at in itertools.product((1, 2, LONGEST_NUMBER), (0, 1, 99), (0, 1, LONGEST_NUMBER)):
            keep = Keep(1)
            keep.put(A, (version, "", age, at), 0)
            self.assertEqual(keep.get(A, 0), (version, "", age, at))


class TestGet(unittest.TestCase):
    def test_none_where_none_is_kept(self):
        keep = Keep(1)
        keep.put(A, entry(), 0)
        for key in (B, C, D, E):
            self.assertIsNone(keep.get(key, 0))
        keep.put(B, entry(), 0)
        self.assertIsNone(keep.get(A, 0))
        self.assertEqual(keep.get(B, 0), entry())

    def test_old_or_not(self):
        keep = Keep(1)
        keep.put(A, entry(1, 0, "x", 0), 0)
        self.assertEqual(keep.get(A, LONGEST_NUMBER), entry(1, 0, "x", 0))

    def test_it_uses_one_that_is_kept(self):
        keep = Keep(2)
        keep.put(A, entry(), 0)
        keep.put(B, entry(), 1)
        keep.get(A, 2)
        self.assertEqual(keep.rows(), ((A, entry(), 2), (B, entry(), 1)))
        keep.put(C, entry(), 3)
        self.assertEqual([row[0] for row in keep.rows()], [A, C])

    def test_none_uses_nothing(self):
        keep = Keep(2)
        keep.put(A, entry(), 0)
        keep.get(B, 5)
        self.assertEqual(keep.rows(), ((A, entry(), 0),))


class TestAgain(unittest.TestCase):
    def test_of_this_version_and_no_later(self):
        for at in (5, 6, LONGEST_NUMBER):
            keep = Keep(1)
            keep.put(A, entry(3, 5, "abc", 9), 1)
            self.assertIs(keep.again(A, 3, 44, at, 2), True)
            self.assertEqual(keep.rows(), ((A, (3, "abc", 44, at), 1),))

    def test_a_later_one_stays_and_is_told(self):
        keep = Keep(1)
        keep.put(A, entry(3, 5, "abc", 9), 1)
        for at in (0, 4):
            self.assertIs(keep.again(A, 3, 44, at, 2), True)
            self.assertEqual(keep.rows(), ((A, entry(3, 5, "abc", 9), 1),))

    def test_another_version(self):
        keep = Keep(1)
        keep.put(A, entry(3, 5), 1)
        for version in (1, 2, 4, LONGEST_NUMBER):
            self.assertIs(keep.again(A, version, 44, 9, 2), False)
        self.assertEqual(keep.rows(), ((A, entry(3, 5), 1),))

    def test_none_is_kept(self):
        keep = Keep(1)
        self.assertIs(keep.again(A, 1, 9, 9, 2), False)
        keep.put(A, entry(), 2)
        self.assertIs(keep.again(B, 1, 9, 9, 2), False)
        self.assertIs(keep.again(C, 1, 9, 9, 2), False)
        self.assertEqual(keep.rows(), ((A, entry(), 2),))

    def test_it_uses_nothing(self):
        keep = Keep(2)
        keep.put(A, entry(), 0)
        keep.put(B, entry(), 1)
        keep.again(A, 1, 9, 5, 5)
        keep.put(C, entry(), 6)
        self.assertEqual([row[0] for row in keep.rows()], [B, C])

    def test_bounds(self):
        for version, age, at in itertools.product((1, LONGEST_NUMBER), (0, 99), (0, LONGEST_NUMBER)):
            keep = Keep(1)
            keep.put(A, entry(version), 0)
            self.assertIs(keep.again(A, version, age, at, 0), True)
            self.assertEqual(keep.get(A, 0), (version, "x", age, at))


class TestRefusals(unittest.TestCase):
    def test_no_key(self):
        for key in NO_KEYS:
            keep = Keep(1)
            self.assertIs(error_of(keep.put, key, entry(), 0), NoKey, repr(key)[:300])
            self.assertIs(error_of(keep.get, key, 0), NoKey, repr(key)[:300])
            self.assertIs(error_of(keep.again, key, 1, 9, 0, 0), NoKey, repr(key)[:300])

    def test_no_entry(self):
        keep = Keep(1)
        for thing in NO_ENTRIES:
            self.assertIs(error_of(keep.put, A, thing, 0), NoEntry, repr(thing)[:300])
        self.assertEqual(keep.rows(), ())

    def test_no_number(self):
        keep = Keep(1)
        keep.put(A, entry(), 0)
        for version in no_wholes(1):
            self.assertIs(error_of(keep.again, A, version, 9, 0, 0), NoNumber, repr(version)[:300])
        for age in no_wholes(0, 99):
            self.assertIs(error_of(keep.again, A, 1, age, 0, 0), NoNumber, repr(age)[:300])
        for at in NO_MOMENTS:
            self.assertIs(error_of(keep.again, A, 1, 9, at, 0), NoMoment, repr(at)[:300])
        self.assertEqual(keep.rows(), ((A, entry(), 0),))

    def test_no_moment(self):
        for now in NO_MOMENTS:
            keep = Keep(1)
            self.assertIs(error_of(keep.put, A, entry(), now), NoMoment, repr(now)[:300])
            self.assertIs(error_of(keep.get, A, now), NoMoment, repr(now)[:300])
            self.assertIs(error_of(keep.again, A, 1, 9, 0, now), NoMoment, repr(now)[:300])

    def test_moments_do_not_fall(self):
        for deed in (
            lambda keep, now: keep.put(A, entry(), now), lambda keep, now: keep.put(A, entry(1, 3), now),
            lambda keep, now: keep.get(A, now), lambda keep, now: keep.get(B, now),
            lambda keep, now: keep.again(A, 2, 9, 9, now), lambda keep, now: keep.again(B, 2, 9, 9, now),
        ):
            keep = Keep(1)
            keep.put(A, entry(2, 9), 3)
            deed(keep, 7)
            for now in (0, 3, 6):
                self.assertIs(error_of(keep.put, A, entry(3), now), NoMoment)
                self.assertIs(error_of(keep.get, A, now), NoMoment)
                self.assertIs(error_of(keep.again, A, 2, 9, 99, now), NoMoment)
            self.assertIs(error_of(keep.put, A, entry(3), 7), None)

    def test_their_order(self):
        keys, entries, nows = (A, (8, "a"), None), (entry(), entry(0), None), (5, 4, None)
        for key, thing, now in itertools.product(keys, entries, nows):
            keep = Keep(1)
            keep.get(B, 5)
            due = NoKey if key != A else NoEntry if thing != entry() else NoMoment if now != 5 else None
            self.assertIs(error_of(keep.put, key, thing, now), due)
            due = NoKey if key != A else NoMoment if now != 5 else None
            self.assertIs(error_of(keep.get, key, now), due)
        for key, version, age, at, now in itertools.product(keys, (1, 0), (9, 100), (3, -1), nows):
            keep = Keep(1)
            keep.get(B, 5)
            due = NoMoment if at == -1 or now != 5 else None
            due = NoKey if key != A else NoNumber if version == 0 or age == 100 else due
            self.assertIs(error_of(keep.again, key, version, age, at, now), due)

    def test_what_is_refused_changes_nothing(self):
        keep = Keep(2)
        keep.put(A, entry(2, 5), 1)
        keep.put(B, entry(), 2)
        rows = keep.rows()
        for call, told in (
            (keep.put, (None, entry(3), 9)), (keep.put, (A, None, 9)), (keep.put, (A, entry(3), 1)),
            (keep.put, (C, entry(3), None)), (keep.get, (None, 9)), (keep.get, (A, 1)), (keep.get, (A, True)),
            (keep.again, (None, 2, 9, 9, 9)), (keep.again, (A, None, 9, 9, 9)), (keep.again, (A, 2, None, 9, 9)),
            (keep.again, (A, 2, 9, None, 9)), (keep.again, (A, 2, 9, 9, 1)),
        ):
            self.assertIsNotNone(error_of(call, *told))
            self.assertEqual(keep.rows(), rows)
        # The last moment is still 2.
        self.assertEqual(keep.get(A, 2), entry(2, 5))


class TestAgainstAPlainKeep(unittest.TestCase):
    def test_all_short_runs(self):
        deeds = [("put", key, entry(version, at)) for key in (A, B, C) for version, at in ((1, 1), (2, 0), (2, 2))]
        deeds += [("get", key) for key in (A, B, C)]
        deeds += [("again", key, 2, 7, at) for key in (A, B) for at in (0, 1, 2)]
        for room in (1, 2):
            for run in itertools.product(deeds, repeat=3):
                for step in (0, 1):
                    keep, plain = Keep(room), PlainKeep(room)
                    for turn, (word, *told) in enumerate(run):
                        one = getattr(keep, word)(*told, turn * step)
                        other = getattr(plain, word)(*told, turn * step)
                        self.assertEqual(one, other, run)
                        self.assertEqual(keep.rows(), plain.rows(), run)


class TestArguments(unittest.TestCase):
    def test_by_their_names(self):
        keep = Keep(room=2)
        self.assertIsNone(keep.put(now=1, entry=entry(), key=A))
        self.assertEqual(keep.get(now=2, key=A), entry())
        self.assertIs(keep.again(now=3, at=4, age=5, version=1, key=A), True)
        self.assertEqual(keep.rows(), ((A, (1, "x", 5, 4), 2),))

    def test_kinds_of_what_is_told(self):
        keep = Keep(2)
        keep.put(A, entry(), 0)
        self.assertIs(type(keep.get(A, 0)), tuple)
        self.assertIs(type(keep.rows()), tuple)
        self.assertIs(type(keep.rows()[0]), tuple)
        self.assertIs(type(keep.again(A, 1, 0, 0, 0)), bool)

    def test_what_is_handed_in_is_not_changed(self):
        for thing in THINGS + [[0, "a"], [1, "x", 9, 3], ([], "a"), (1, [], 9, 3)]:
            kept = copy.deepcopy(thing)
            keep = Keep(2)
            error_of(Keep, thing)
            error_of(keep.put, thing, entry(), 0)
            error_of(keep.put, A, thing, 0)
            error_of(keep.get, thing, 0)
            error_of(keep.again, thing, thing, thing, thing, thing)
            self.assertEqual(repr(thing), repr(kept))

    def test_asked_again(self):
        keep = Keep(2)
        keep.put(A, entry(), 0)
        self.assertEqual(keep.rows(), keep.rows())
        self.assertEqual(keep.get(A, 0), keep.get(A, 0))

    def test_two_keeps_have_nothing_in_common(self):
        one, other = Keep(2), Keep(2)
        one.put(A, entry(), 9)
        self.assertEqual(other.rows(), ())
        self.assertIsNone(other.get(A, 0))

    def test_methods_stand_in_the_class_itself(self):
        for name in ("put", "get", "again", "rows"):
            self.assertIn(name, vars(Keep))


if __name__ == "__main__":
    unittest.main()

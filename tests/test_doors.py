"""[30] doors."""

import copy
import itertools
import unittest

from freshreach.doors import Door
from freshreach.errors import NoKey, NoMoment, NoNumber
from tests.samples import LONGEST_NUMBER, NO_MOMENTS, THINGS, error_of, no_wholes


class PlainDoor:
    """What [30] says, by looking through all that was told so far."""

    def __init__(self, rest, numbers):
        self.rest = rest
        self.numbers = numbers
        self.tellings = []

    def use_of(self, number, now):
        uses = [(key, last) for told, key, last in self.tellings if told == number]
        return uses[-1] if uses and now - uses[-1][1] <= self.rest else (None, None)

    def out(self, key, now):
        holders = [self.use_of(number, now)[0] for number in range(self.numbers)]
        for wanted in (key, None):
            if wanted in holders:
                self.tellings.append((holders.index(wanted), key, now))
                return holders.index(wanted)
        return None

    def back(self, number, now):
        key = self.use_of(number, now)[0]
        if key is not None:
            self.tellings.append((number, key, now))
        return key

    def rows(self, now):
        rows = [(number, *self.use_of(number, now)) for number in range(self.numbers)]
        return tuple([row for row in rows if row[1] is not None])


class TestNumbers(unittest.TestCase):
    def test_the_least_that_no_key_holds(self):
        for numbers in range(1, 5):
            door = Door(60, numbers)
            for at in range(numbers):
                self.assertEqual(door.out(10 + at, 0), at)
            self.assertIsNone(door.out(99, 0))
            self.assertIsNone(door.out(0, 60))

    def test_a_key_that_holds_one_has_it(self):
        door = Door(5, 4)
        self.assertEqual(door.out(7, 0), 0)
        self.assertEqual(door.out(0, 0), 1)
        self.assertEqual(door.out(7, 0), 0)
        self.assertEqual(door.out(7, 3), 0)
        self.assertEqual(door.out(0, 5), 1)
        self.assertEqual(door.out(7, 8), 0)

    def test_a_key_that_holds_one_has_it_when_all_are_held(self):
        door = Door(5, 1)
        self.assertEqual(door.out(3, 0), 0)
        self.assertIsNone(door.out(4, 1))
        self.assertEqual(door.out(3, 2), 0)
        self.assertIsNone(door.out(4, 7))
        self.assertEqual(door.out(4, 8), 0)
        self.assertIsNone(door.out(3, 8))

    def test_a_key_keeps_its_number_though_a_lesser_one_is_free(self):
        door = Door(2, 3)
        self.assertEqual([door.out(key, 0) for key in (5, 6, 7)], [0, 1, 2])
        self.assertEqual(door.out(7, 2), 2)
        self.assertEqual(door.rows(3), ((2, 7, 2),))
        self.assertEqual(door.out(7, 3), 2)
        self.assertEqual(door.out(6, 3), 0)
        self.assertEqual(door.out(5, 3), 1)

    def test_a_key_that_lost_its_number_gets_the_least(self):
        door = Door(1, 2)
        self.assertEqual([door.out(key, 0) for key in (5, 6)], [0, 1])
        self.assertEqual(door.out(6, 2), 0)
        self.assertIsNone(door.back(1, 2))
        self.assertEqual(door.back(0, 2), 6)
        self.assertEqual(door.rows(2), ((0, 6, 2),))

    def test_keys_of_every_size(self):
        door = Door(1, 4)
        keys = (LONGEST_NUMBER, 0, 1, LONGEST_NUMBER - 1)
        self.assertEqual([door.out(key, 0) for key in keys], [0, 1, 2, 3])
        self.assertEqual([door.back(number, 0) for number in range(4)], list(keys))

    def test_great_moments(self):
        door = Door(60, 1)
        self.assertEqual(door.out(1, LONGEST_NUMBER - 61), 0)
        self.assertIsNone(door.out(2, LONGEST_NUMBER - 1))
        self.assertEqual(door.out(2, LONGEST_NUMBER), 0)
        self.assertEqual(door.rows(LONGEST_NUMBER), ((0, 2, LONGEST_NUMBER),))


class TestHowLong(unittest.TestCase):
    def test_until_rest_moments_have_gone(self):
        for rest in (1, 2, 30, 59, 60):
            for begin in (0, 1, 17):
                held, gone = Door(rest, 1), Door(rest, 1)
                self.assertEqual(held.out(3, begin), 0)
                self.assertEqual(gone.out(3, begin), 0)
                self.assertEqual(held.rows(begin + rest), ((0, 3, begin),))
                self.assertEqual(held.rows(begin + rest + 1), ())
                self.assertIsNone(held.out(4, begin + rest))
                self.assertEqual(held.back(0, begin + rest), 3)
                self.assertIsNone(gone.back(0, begin + rest + 1))
                self.assertEqual(gone.out(4, begin + rest + 1), 0)

    def test_since_it_was_last_told_by_out(self):
        for rest in (1, 60):
            door = Door(rest, 1)
            for turn in range(5):
                self.assertEqual(door.out(3, turn * rest), 0)
            self.assertIsNone(door.out(4, 5 * rest))
            self.assertEqual(door.out(4, 5 * rest + 1), 0)

    def test_since_it_was_last_told_by_back(self):
        for rest in (1, 60):
            door = Door(rest, 2)
            self.assertEqual(door.out(3, 0), 0)
            for turn in range(1, 6):
                self.assertEqual(door.back(0, turn * rest), 3)
            self.assertEqual(door.rows(6 * rest), ((0, 3, 5 * rest),))
            self.assertEqual(door.rows(6 * rest + 1), ())
            self.assertIsNone(door.back(0, 6 * rest + 1))

    def test_neither_rows_nor_another_key_nor_none_renews_it(self):
        door = Door(3, 2)
        door.out(3, 0)
        door.out(4, 0)
        self.assertEqual(door.rows(2), ((0, 3, 0), (1, 4, 0)))
        self.assertIsNone(door.out(5, 2))
        self.assertEqual(door.back(1, 2), 4)
        self.assertIsNone(door.back(2, 3))
        self.assertEqual(door.rows(3), ((0, 3, 0), (1, 4, 2)))
        self.assertEqual(door.rows(4), ((1, 4, 2),))
        self.assertEqual(door.out(5, 4), 0)

    def test_a_number_that_was_given_leads_back_to_the_key_that_holds_it(self):
        for rest, numbers in itertools.product((1, 2, 5, 60), (1, 2, 3, 4)):
            door = Door(rest, numbers)
            for now in range(200):
                key = now * now // 3 % 7
                number = door.out(key, now)
                if number is not None:
                    self.assertEqual(door.back(number, now), key)
                    self.assertIn((number, key, now), door.rows(now))
                held = door.rows(now)
                self.assertEqual(len({row[1] for row in held}), len(held))


class TestBack(unittest.TestCase):
    def test_none_where_no_key_holds_it(self):
        door = Door(5, 2)
        for number in range(4):
            self.assertIsNone(door.back(number, 0))
        door.out(9, 0)
        self.assertEqual(door.back(0, 0), 9)
        self.assertIsNone(door.back(1, 0))
        self.assertIsNone(door.back(2, 0))

    def test_of_anything(self):
        door = Door(5, 2)
        door.out(9, 0)
        door.out(8, 0)
        for thing in no_wholes(0, 1) + [4]:
            self.assertIsNone(door.back(thing, 3), repr(thing)[:300])
        self.assertEqual(door.rows(3), ((0, 9, 0), (1, 8, 0)))

    def test_what_is_handed_in_is_not_changed(self):
        door = Door(5, 2)
        for thing in THINGS:
            kept = copy.deepcopy(thing)
            door.back(thing, 0)
            error_of(door.out, thing, 0)
            error_of(door.rows, thing)
            self.assertEqual(repr(thing), repr(kept))

    def test_the_key_nought_is_one(self):
        door = Door(5, 1)
        door.out(0, 0)
        self.assertEqual(door.back(0, 1), 0)
        self.assertIsNone(door.out(1, 6))


class TestRows(unittest.TestCase):
    def test_none_at_first(self):
        for now in (0, 1, LONGEST_NUMBER):
            self.assertEqual(Door(1, 1).rows(now), ())

    def test_they_rise(self):
        door = Door(3, 4)
        for key in (9, 8, 7, 6):
            door.out(key, 0)
        door.out(6, 3)
        door.back(2, 3)
        self.assertEqual(door.rows(3), ((0, 9, 0), (1, 8, 0), (2, 7, 3), (3, 6, 3)))
        door.out(5, 4)
        self.assertEqual(door.rows(4), ((0, 5, 4), (2, 7, 3), (3, 6, 3)))
        door.out(4, 4)
        self.assertEqual(door.rows(4), ((0, 5, 4), (1, 4, 4), (2, 7, 3), (3, 6, 3)))

    def test_they_turn_nothing(self):
        door = Door(3, 2)
        door.out(5, 1)
        self.assertEqual(door.rows(100), ())
        self.assertEqual(door.rows(1), ((0, 5, 1),))
        self.assertEqual(door.rows(4), ((0, 5, 1),))
        self.assertEqual(door.out(5, 1), 0)
        self.assertEqual(door.back(0, 4), 5)


class TestMoments(unittest.TestCase):
    def test_none_earlier_than_the_last(self):
        for ask in (lambda door: door.out(1, 7), lambda door: door.back(0, 7), lambda door: door.back(None, 7)):
            door = Door(5, 1)
            ask(door)
            for now in (0, 5, 6):
                self.assertIs(error_of(door.out, 1, now), NoMoment)
                self.assertIs(error_of(door.back, 0, now), NoMoment)
                self.assertIs(error_of(door.rows, now), NoMoment)
            for now in (7, 7, 8):
                door.rows(now)
            door.out(1, 7)
            door.back(0, 7)

    def test_where_all_are_held_the_moment_counts(self):
        door = Door(5, 1)
        door.out(1, 0)
        self.assertIsNone(door.out(2, 3))
        self.assertIs(error_of(door.out, 1, 2), NoMoment)
        self.assertEqual(door.out(1, 3), 0)

    def test_nought_at_first(self):
        self.assertEqual(Door(1, 1).out(0, 0), 0)
        self.assertIsNone(Door(1, 1).back(0, 0))
        self.assertEqual(Door(1, 1).rows(0), ())


class TestRefusals(unittest.TestCase):
    def test_bounds_of_rest_and_numbers(self):
        for rest in range(1, 61):
            Door(rest, 1)
        for numbers in range(1, 5):
            Door(60, numbers)
        for rest in no_wholes(1, 60):
            self.assertIs(error_of(Door, rest, 1), NoNumber, repr(rest)[:300])
            self.assertIs(error_of(Door, rest, 0), NoNumber, repr(rest)[:300])
        for numbers in no_wholes(1, 4):
            self.assertIs(error_of(Door, 1, numbers), NoNumber, repr(numbers)[:300])

    def test_no_key(self):
        door = Door(5, 1)
        for key in no_wholes(0):
            self.assertIs(error_of(door.out, key, 0), NoKey, repr(key)[:300])
            self.assertIs(error_of(door.out, key, 99), NoKey, repr(key)[:300])
        self.assertEqual(door.rows(0), ())
        self.assertEqual(door.out(1, 0), 0)

    def test_no_moment_at_first(self):
        for now in NO_MOMENTS:
            self.assertIs(error_of(Door(5, 1).out, 1, now), NoMoment, repr(now)[:300])
            self.assertIs(error_of(Door(5, 1).back, 0, now), NoMoment, repr(now)[:300])
            self.assertIs(error_of(Door(5, 1).rows, now), NoMoment, repr(now)[:300])

    def test_no_moment(self):
        door = Door(5, 1)
        door.out(1, 0)
        for now in NO_MOMENTS:
            self.assertIs(error_of(door.out, 1, now), NoMoment, repr(now)[:300])
            self.assertIs(error_of(door.back, 0, now), NoMoment, repr(now)[:300])
            self.assertIs(error_of(door.back, None, now), NoMoment, repr(now)[:300])
            self.assertIs(error_of(door.rows, now), NoMoment, repr(now)[:300])

    def test_no_key_ahead_of_no_moment(self):
        door = Door(5, 1)
        door.out(1, 3)
        for key, now in itertools.product((-1, None, True, "a", []), (2, -1, None, True, [])):
            self.assertIs(error_of(door.out, key, now), NoKey)
            self.assertIs(error_of(door.out, 1, now), NoMoment)

    def test_behind_a_refusal_all_is_as_ahead_of_it(self):
        refused = [
            lambda door: door.out(-1, 50), lambda door: door.out(True, 4), lambda door: door.out(None, 3),
            lambda door: door.out(1, 2), lambda door: door.out(9, None), lambda door: door.out(9, 3.0),
            lambda door: door.back(0, 2), lambda door: door.back(1, True), lambda door: door.back(0, []),
            lambda door: door.rows(2), lambda door: door.rows(None), lambda door: door.rows(-1),
        ]
        for more in itertools.product(refused, repeat=2):
            plain, tried = self.door_with_two(), self.door_with_two()
            for call in more:
                self.assertIsNotNone(error_of(call, tried))
            self.assertEqual(self.answers(tried), self.answers(plain))

    def door_with_two(self):
        door = Door(4, 3)
        door.out(1, 0)
        door.out(2, 2)
        door.back(0, 3)
        return door

    def answers(self, door):
        told = [door.rows(now) for now in range(3, 10)]
        told += [door.out(2, 3), door.back(0, 3), door.out(9, 3), door.out(8, 3), door.rows(3)]
        return told + [door.back(number, 7) for number in range(3)] + [door.rows(now) for now in range(7, 13)]


class TestAgainstThePlainDoor(unittest.TestCase):
    def follow(self, rest, numbers, deeds):
        door, plain = Door(rest, numbers), PlainDoor(rest, numbers)
        now = 0
        for word, thing, moments in deeds:
            now += moments
            asked, meant = (door.out, plain.out) if word == "out" else (door.back, plain.back)
            told = asked(thing, now)
            self.assertEqual(told, meant(thing, now), (rest, numbers, deeds))
            self.assertEqual(asked(thing, now), told)
            for later in (now, now + 1, now + rest, now + rest + 1):
                self.assertEqual(door.rows(later), plain.rows(later), (rest, numbers, deeds))

    def test_all_short_runs(self):
        steps = [("out", key, moments) for key in range(3) for moments in (0, 1, 2)]
        steps += [("back", number, moments) for number in range(2) for moments in (0, 1, 2)]
        for rest, numbers in ((1, 1), (1, 2), (2, 2)):
            for deeds in itertools.product(steps, repeat=3):
                self.follow(rest, numbers, deeds)

    def test_some_long_runs(self):
        for rest, numbers, seed in itertools.product((1, 3, 60), (1, 3, 4), range(4)):
            deeds = []
            for turn in range(120):
                seed = (seed * 1103515245 + 12345) % 2 ** 31
                word = "out" if seed // 65536 % 3 else "back"
                deeds.append((word, seed // 2 ** 18 % 6, seed // 2 ** 21 % (rest + 2) // 2))
            self.follow(rest, numbers, deeds)


class TestArguments(unittest.TestCase):
    def test_by_their_names(self):
        door = Door(numbers=2, rest=3)
        self.assertEqual(door.out(now=1, key=5), 0)
        self.assertEqual(door.back(now=2, number=0), 5)
        self.assertEqual(door.rows(now=2), ((0, 5, 2),))

    def test_kinds_of_what_is_told(self):
        door = Door(3, 2)
        self.assertIs(type(door.out(5, 0)), int)
        self.assertIs(type(door.back(0, 0)), int)
        self.assertIs(type(door.rows(0)), tuple)
        self.assertIs(type(door.rows(0)[0]), tuple)

    def test_two_doors_have_nothing_in_common(self):
        one, other = Door(3, 1), Door(3, 1)
        one.out(5, 9)
        self.assertEqual(other.out(6, 0), 0)
        self.assertEqual(one.rows(9), ((0, 5, 9),))

    def test_methods_stand_in_the_class_itself(self):
        for name in ("out", "back", "rows"):
            self.assertIn(name, vars(Door))


if __name__ == "__main__":
    unittest.main()

"""[40] the book."""

import copy
import itertools
import unittest

from freshreach.books import Book
from freshreach.errors import NoMoment, NoName, NoNames, NoPlace
from tests.samples import (
    GREAT, LONGEST_NUMBER, NO_MOMENTS, NO_WORDS, SMALL, STRANGE_THINGS, THINGS, as_lists, error_of, no_wholes,
    part_of, paths_of, put_in,
)

FOUR = (("a", 0, 0), ("ab", 7, 99), ("b", 3, 50), ("zzzzzzzz", 0, 1))
NOT_ITS_NAMES = NO_WORDS + ["c", "aa", "abc", "z", "zzzzzzz", "A", ("a", 0, 0)]
NO_PLACES = no_wholes(0, 7)


class PlainBook:
    """What [40] says, by looking through all that was done so far."""

    def __init__(self, names):
        self.names = names
        self.deeds = [(0, name, house) for name, house, age in names]

    def led(self, name, moment):
        return [house for at, led, house in self.deeds if led == name and at <= moment][-1]

    def told(self, name, now):
        for known, house, age in self.names:
            if known == name:
                return self.led(name, now), age
        return None


class TestNames(unittest.TestCase):
    def test_one_to_four(self):
        for many in range(1, 5):
            for names in itertools.combinations(FOUR, many):
                book = Book(names)
                for name, house, age in FOUR:
                    self.assertEqual(book.told(name, 0), (house, age) if (name, house, age) in names else None)
        self.assertIs(error_of(Book, ()), NoNames)
        self.assertIs(error_of(Book, FOUR + (("zzzzzzzzz", 0, 1),)), NoNames)
        self.assertIs(error_of(Book, (("a", 0, 0), ("b", 0, 0), ("c", 0, 0), ("d", 0, 0), ("e", 0, 0))), NoNames)

    def test_names_of_plans(self):
        for plan in (SMALL, GREAT):
            book = Book(plan[2])
            for name, house, age in plan[2]:
                self.assertEqual(book.told(name, 0), (house, age))

    def test_words(self):
        for name in ("a", "z", "abcdefgh", "zzzzzzzz"):
            self.assertEqual(Book(((name, 1, 2),)).told(name, 0), (1, 2))
        for name in NO_WORDS:
            self.assertIs(error_of(Book, ((name, 1, 2),)), NoNames, repr(name)[:300])

    def test_each_place_may_be_a_house(self):
        for house in range(8):
            self.assertEqual(Book((("a", house, 2),)).told("a", 0), (house, 2))
        for house in NO_PLACES:
            self.assertIs(error_of(Book, (("a", house, 2),)), NoNames, repr(house)[:300])

    def test_ages(self):
        for age in range(100):
            self.assertEqual(Book((("a", 1, age),)).told("a", 0), (1, age))
        for age in no_wholes(0, 99):
            self.assertIs(error_of(Book, (("a", 1, age),)), NoNames, repr(age)[:300])

    def test_rises_and_unlike(self):
        for names in itertools.permutations(FOUR):
            self.assertIs(error_of(Book, names), None if names == FOUR else NoNames)
        self.assertIs(error_of(Book, (("a", 0, 0), ("a", 0, 0))), NoNames)
        self.assertIs(error_of(Book, (("a", 0, 0), ("a", 0, 1))), NoNames)
        self.assertIs(error_of(Book, (("a", 0, 0), ("a", 1, 0))), NoNames)
        self.assertIs(error_of(Book, (("a", 0, 0), ("b", 0, 0), ("b", 1, 0))), NoNames)

    def test_no_names(self):
        for thing in THINGS + STRANGE_THINGS + [FOUR[0], dict(enumerate(FOUR)), (("a", 0),), (("a", 0, 0, 0),)]:
            self.assertIs(error_of(Book, thing), NoNames, repr(thing)[:300])
        for path in paths_of(FOUR):
            part = part_of(FOUR, path)
            if isinstance(part, tuple):
                self.assertIs(error_of(Book, put_in(FOUR, path, as_lists(part))), NoNames)
                self.assertIs(error_of(Book, put_in(FOUR, path, dict(enumerate(part)))), NoNames)
            for thing in THINGS:
                if path and type(thing) is not int and not isinstance(thing, str):
                    self.assertIs(error_of(Book, put_in(FOUR, path, thing)), NoNames, repr(thing)[:300])

    def test_names_handed_in_are_not_changed(self):
        for thing in THINGS + [FOUR, as_lists(FOUR)]:
            kept = copy.deepcopy(thing)
            error_of(Book, thing)
            self.assertEqual(repr(thing), repr(kept))


class TestLead(unittest.TestCase):
    def test_from_that_moment_on(self):
        book = Book(FOUR)
        self.assertEqual(book.told("ab", 4), (7, 99))
        self.assertIsNone(book.lead("ab", 2, 5))
        self.assertEqual(book.told("ab", 5), (2, 99))
        self.assertEqual(book.told("ab", 500), (2, 99))
        self.assertEqual([book.led("ab", moment) for moment in (0, 4, 5, 6, 500)], [7, 7, 2, 2, 2])

    def test_to_each_place(self):
        book = Book(FOUR)
        for house in range(8):
            book.lead("b", house, house)
            self.assertEqual(book.told("b", house), (house, 50))
        self.assertEqual([book.led("b", moment) for moment in range(8)], list(range(8)))

    def test_the_last_at_a_moment_counts(self):
        book = Book(FOUR)
        for house in (4, 5, 1):
            book.lead("a", house, 6)
            self.assertEqual(book.told("a", 6), (house, 0))
            self.assertEqual(book.led("a", 6), house)
        self.assertEqual(book.led("a", 5), 0)
        book.lead("a", 1, 6)
        self.assertEqual(book.led("a", 6), 1)

    def test_at_the_moment_nought(self):
        book = Book(FOUR)
        self.assertEqual(book.led("a", 0), 0)
        book.lead("a", 5, 0)
        self.assertEqual(book.led("a", 0), 5)
        self.assertEqual(book.told("a", 0), (5, 0))

    def test_led_back(self):
        book = Book(FOUR)
        book.lead("a", 3, 1)
        book.lead("a", 0, 2)
        self.assertEqual([book.led("a", moment) for moment in range(3)], [0, 3, 0])

    def test_other_names_stay(self):
        book = Book(FOUR)
        book.lead("b", 6, 3)
        self.assertEqual([book.told(name, 3) for name in ("a", "ab", "b", "zzzzzzzz")],
                         [(0, 0), (7, 99), (6, 50), (0, 1)])
        self.assertEqual([book.led(name, 3) for name in ("a", "ab", "b", "zzzzzzzz")], [0, 7, 6, 0])

    def test_no_name_no_place_no_moment(self):
        book = Book(FOUR)
        book.lead("a", 1, 5)
        for name in NOT_ITS_NAMES:
            self.assertIs(error_of(book.lead, name, 1, 5), NoName, repr(name)[:300])
        for house in NO_PLACES:
            self.assertIs(error_of(book.lead, "a", house, 5), NoPlace, repr(house)[:300])
        for now in NO_MOMENTS + [0, 3, 4]:
            self.assertIs(error_of(book.lead, "a", 1, now), NoMoment, repr(now)[:300])

    def test_their_order(self):
        book = Book(FOUR)
        book.told("a", 5)
        for name, house, now in itertools.product(("a", "c", None, []), (1, 8, None, []), (5, 4, None, [])):
            due = NoName if name != "a" else NoPlace if house != 1 else NoMoment if now != 5 else None
            self.assertIs(error_of(book.lead, name, house, now), due)


class TestTold(unittest.TestCase):
    def test_no_moment_at_first(self):
        for now in NO_MOMENTS:
            self.assertIs(error_of(Book(FOUR).told, "a", now), NoMoment, repr(now)[:300])
            self.assertIs(error_of(Book(FOUR).lead, "a", 1, now), NoMoment, repr(now)[:300])
            self.assertIs(error_of(Book(FOUR).led, "a", now), NoMoment, repr(now)[:300])

    def test_of_anything(self):
        book = Book(FOUR)
        for name in NOT_ITS_NAMES:
            self.assertIsNone(book.told(name, 2), repr(name)[:300])
        self.assertEqual(book.told("a", 2), (0, 0))

    def test_no_moment(self):
        book = Book(FOUR)
        book.told("a", 5)
        for now in NO_MOMENTS + [0, 3, 4]:
            for name in ("a", "c", None, [], {}):
                self.assertIs(error_of(book.told, name, now), NoMoment, repr(now)[:300])

    def test_moments_of_lead_and_told_alike(self):
        for first in (lambda book: book.lead("a", 1, 5), lambda book: book.told("b", 5), lambda book: book.told(0, 5)):
            book = Book(FOUR)
            first(book)
            self.assertIs(error_of(book.lead, "b", 1, 4), NoMoment)
            self.assertIs(error_of(book.told, "a", 4), NoMoment)
            self.assertIs(error_of(book.told, "c", 4), NoMoment)
            self.assertIsNone(book.lead("b", 1, 5))
            self.assertEqual(book.told("b", 5), (1, 50))

    def test_what_is_handed_in_is_not_changed(self):
        book = Book(FOUR)
        for thing in THINGS:
            kept = copy.deepcopy(thing)
            book.told(thing, 0)
            for call in (
                lambda: book.told("a", thing), lambda: book.lead(thing, 0, 0), lambda: book.lead("a", thing, 0),
                lambda: book.led(thing, 0), lambda: book.led("a", thing),
            ):
                if type(thing) is not int:
                    error_of(call)
            self.assertEqual(repr(thing), repr(kept))


class TestLed(unittest.TestCase):
    def test_up_to_the_last_moment(self):
        for last in (0, 1, 9, LONGEST_NUMBER):
            for ask in (
                lambda book: book.told("a", last), lambda book: book.told("zz", last),
                lambda book: book.lead("b", 1, last),
            ):
                book = Book(FOUR)
                ask(book)
                self.assertEqual(book.led("a", 0), 0)
                self.assertEqual(book.led("a", last), 0)
                self.assertIs(error_of(book.led, "a", last + 1), NoMoment)
                self.assertIs(error_of(book.led, "a", last + 100), NoMoment)

    def test_nought_at_first(self):
        book = Book(FOUR)
        self.assertEqual([book.led(name, 0) for name, house, age in FOUR], [0, 7, 3, 0])
        self.assertIs(error_of(book.led, "a", 1), NoMoment)

    def test_it_turns_nothing(self):
        book = Book(FOUR)
        book.lead("a", 4, 7)
        self.assertEqual([book.led("a", moment) for moment in (7, 0, 6, 7, 3)], [4, 0, 0, 4, 0])
        self.assertIs(error_of(book.told, "a", 6), NoMoment)
        book.lead("a", 5, 7)
        self.assertEqual(book.led("a", 7), 5)

    def test_no_name_then_no_moment(self):
        book = Book(FOUR)
        book.told("a", 5)
        for name in NOT_ITS_NAMES:
            self.assertIs(error_of(book.led, name, 5), NoName, repr(name)[:300])
            self.assertIs(error_of(book.led, name, 6), NoName, repr(name)[:300])
            self.assertIs(error_of(book.led, name, None), NoName, repr(name)[:300])
        for moment in NO_MOMENTS + [6, LONGEST_NUMBER]:
            self.assertIs(error_of(book.led, "a", moment), NoMoment, repr(moment)[:300])


class TestBehindARefusal(unittest.TestCase):
    def book(self):
        book = Book(FOUR)
        book.lead("a", 4, 2)
        book.told("b", 3)
        return book

    def answers(self, book):
        names = [name for name, house, age in FOUR]
        told = [book.led(name, moment) for name in names for moment in range(4)]
        told += [error_of(book.led, "a", 4), error_of(book.told, "a", 2), error_of(book.lead, "a", 0, 2)]
        told += [book.told(name, 3) for name in names]
        book.lead("zzzzzzzz", 5, 3)
        return told + [book.told(name, 4) for name in names] + [book.led(name, 3) for name in names]

    def test_all_is_as_ahead_of_it(self):
        refused = [
            lambda book: book.lead("c", 1, 50), lambda book: book.lead([], 1, 3), lambda book: book.lead("a", 8, 50),
            lambda book: book.lead("a", True, 3), lambda book: book.lead("a", 1, 2), lambda book: book.lead("a", 1, -1),
            lambda book: book.lead("a", 1, None), lambda book: book.told("a", 2), lambda book: book.told("c", True),
            lambda book: book.led("c", 0), lambda book: book.led("a", 4), lambda book: book.led("a", -1),
        ]
        for more in itertools.product(refused, repeat=2):
            tried = self.book()
            for call in more:
                self.assertIsNotNone(error_of(call, tried))
            self.assertEqual(self.answers(tried), self.answers(self.book()))


class TestAgainstThePlainBook(unittest.TestCase):
    def test_all_short_runs(self):
        names = FOUR[1:3]
        steps = [(name, house, moments) for name in ("ab", "b", "c") for house in (None, 1, 2) for moments in (0, 1, 2)]
        for deeds in itertools.product(steps, repeat=3):
            book, plain, now = Book(names), PlainBook(names), 0
            for name, house, moments in deeds:
                now += moments
                if house is None:
                    self.assertEqual(book.told(name, now), plain.told(name, now))
                    self.assertEqual(book.told(name, now), plain.told(name, now))
                elif name != "c":
                    book.lead(name, house, now)
                    plain.deeds.append((now, name, house))
                else:
                    self.assertIs(error_of(book.lead, name, house, now), NoName)
                    now -= moments
                for name in ("ab", "b"):
                    for moment in range(now + 1):
                        self.assertEqual(book.led(name, moment), plain.led(name, moment), deeds)
                    self.assertIs(error_of(book.led, name, now + 1), NoMoment)


class TestArguments(unittest.TestCase):
    def test_by_their_names(self):
        book = Book(names=FOUR)
        self.assertIsNone(book.lead(now=1, house=2, name="a"))
        self.assertEqual(book.told(now=1, name="a"), (2, 0))
        self.assertEqual(book.led(moment=0, name="a"), 0)

    def test_kinds_of_what_is_told(self):
        book = Book(FOUR)
        self.assertIs(type(book.told("a", 0)), tuple)
        self.assertIs(type(book.led("a", 0)), int)

    def test_two_books_have_nothing_in_common(self):
        one, other = Book(FOUR), Book(FOUR)
        one.lead("a", 5, 9)
        self.assertEqual(other.told("a", 0), (0, 0))
        self.assertEqual(one.told("a", 9), (5, 0))

    def test_methods_stand_in_the_class_itself(self):
        for name in ("lead", "told", "led"):
            self.assertIn(name, vars(Book))


if __name__ == "__main__":
    unittest.main()

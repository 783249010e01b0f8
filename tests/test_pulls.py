"""[70] pulls."""

import copy
import itertools
import unittest

from freshreach.errors import NoAnswer, NoPage
from freshreach.houses import House
from freshreach.pulls import Pull
from tests.samples import LONGEST_NUMBER, NO_LETTERS, NO_MOMENTS, NO_WORDS, STRANGE_THINGS, THINGS, error_of, no_wholes

SIXTEEN = "abcdefghijklmnop"
RIGHT = ("piece", "a", 3, 5, 2, "xy", 9, 7)


def piece(version, many, k, text="x", age=9, at=0, page="a"):
    return "piece", page, version, many, k, text, age, at


def with_part(at, part):
    return RIGHT[:at] + (part,) + RIGHT[at + 1:]


NO_ANSWERS = THINGS + STRANGE_THINGS + [
    list(RIGHT), RIGHT[:7], RIGHT + (0,), RIGHT[::-1], dict(enumerate(RIGHT)),
    ("none", "a", 7), ("same", "a", 3, 9, 7), ("piece", "a", 2), ("piece", 0, (0, 1), "a", 3, 5, 2, "xy", 9, 7),
    with_part(0, "same"), with_part(0, "whole"), with_part(0, "pieces"), with_part(1, "b"), with_part(1, "aa"),
]
NO_ANSWERS += [with_part(0, thing) for thing in THINGS + STRANGE_THINGS]
NO_ANSWERS += [with_part(1, word) for word in NO_WORDS]
NO_ANSWERS += [with_part(2, version) for version in no_wholes(1)]
NO_ANSWERS += [with_part(3, many) for many in no_wholes(1, 16)] + [with_part(3, many) for many in (1, 2)]
NO_ANSWERS += [with_part(4, k) for k in no_wholes(0, 4)]
NO_ANSWERS += [with_part(5, text) for text in NO_LETTERS]
NO_ANSWERS += [with_part(6, age) for age in no_wholes(0, 99)]
NO_ANSWERS += [with_part(7, at) for at in NO_MOMENTS]


class TestMade(unittest.TestCase):
    def test_of_words(self):
        for page in ("a", "z", "abcdefgh"):
            self.assertEqual(Pull(page).take(piece(1, 2, 0, page=page)), ("piece", page, 1))

    def test_no_page(self):
        for page in NO_WORDS:
            self.assertIs(error_of(Pull, page), NoPage, repr(page)[:300])

    def test_none_at_first(self):
        self.assertEqual(Pull("a").gathered(), ())


class TestTake(unittest.TestCase):
    def test_piece_by_piece(self):
        for many in range(1, 17):
            pull = Pull("a")
            for k in range(many - 1):
                self.assertEqual(pull.take(piece(4, many, k, SIXTEEN[k], 9, k)), ("piece", "a", k + 1))
                self.assertEqual(pull.gathered(), tuple(SIXTEEN[:k + 1]))
            told = pull.take(piece(4, many, many - 1, SIXTEEN[many - 1], 9, many - 1))
            self.assertEqual(told, ("whole", 4, SIXTEEN[:many], 9, 0))
            self.assertEqual(pull.gathered(), ())

    def test_a_page_of_one_piece(self):
        for text in ("", "x", SIXTEEN):
            pull = Pull("a")
            self.assertEqual(pull.take(piece(1, 1, 0, text, 5, 8)), ("whole", 1, text, 5, 8))
            self.assertEqual(pull.gathered(), ())

    def test_a_piece_nought_when_none_is_gathered(self):
        pull = Pull("a")
        self.assertEqual(pull.take(piece(7, 3, 0, "ab")), ("piece", "a", 1))
        self.assertEqual(pull.gathered(), ("ab",))

    def test_another_piece_when_none_is_gathered(self):
        for k in range(1, 16):
            pull = Pull("a")
            self.assertEqual(pull.take(piece(1, 16, k)), ("piece", "a", 0))
            self.assertEqual(pull.gathered(), ())

    def test_a_piece_nought_of_another_version_begins_anew(self):
        for version in (1, 2, 4, LONGEST_NUMBER):
            pull = Pull("a")
            pull.take(piece(3, 4, 0, "ab"))
            pull.take(piece(3, 4, 1, "cd"))
            self.assertEqual(pull.take(piece(version, 2, 0, "x")), ("piece", "a", 1))
            self.assertEqual(pull.gathered(), ("x",))
            self.assertEqual(pull.take(piece(version, 2, 1, "y", 3, 5)), ("whole", version, "xy", 3, 0))

    def test_a_piece_nought_of_another_version_may_be_the_whole(self):
        pull = Pull("a")
        pull.take(piece(3, 4, 0, "ab"))
        self.assertEqual(pull.take(piece(4, 1, 0, "x", 3, 5)), ("whole", 4, "x", 3, 5))
        self.assertEqual(pull.gathered(), ())

    def test_a_piece_nought_of_the_version_gathered_lets_all_go(self):
        for many in (1, 2, 3):
            pull = Pull("a")
            for k in range(many):
                pull.take(piece(3, 4, k))
            self.assertEqual(pull.take(piece(3, 4, 0)), ("piece", "a", 0))
            self.assertEqual(pull.gathered(), ())
            self.assertEqual(pull.take(piece(3, 4, 0, "q")), ("piece", "a", 1))
            self.assertEqual(pull.gathered(), ("q",))

    def test_a_piece_that_is_not_the_next_lets_all_go(self):
        for k in (1, 3, 4, 15):
            pull = Pull("a")
            pull.take(piece(3, 16, 0))
            pull.take(piece(3, 16, 1))
            self.assertEqual(pull.take(piece(3, 16, k)), ("piece", "a", 0))
            self.assertEqual(pull.gathered(), ())

    def test_the_next_piece_of_another_version_lets_all_go(self):
        for version in (2, 4):
            pull = Pull("a")
            pull.take(piece(3, 4, 0))
            self.assertEqual(pull.take(piece(version, 4, 1)), ("piece", "a", 0))
            self.assertEqual(pull.gathered(), ())
            self.assertEqual(pull.take(piece(3, 4, 1)), ("piece", "a", 0))

    def test_behind_the_whole_none_is_gathered(self):
        pull = Pull("a")
        for turn in range(3):
            self.assertEqual(pull.take(piece(3, 2, 0, "ab", 9, turn)), ("piece", "a", 1))
            self.assertEqual(pull.take(piece(3, 2, 1, "c", 9, turn + 5)), ("whole", 3, "abc", 9, turn))
            self.assertEqual(pull.gathered(), ())
        self.assertEqual(pull.take(piece(3, 2, 1)), ("piece", "a", 0))

    def test_as_many_as_the_last_answer_tells(self):
        pull = Pull("a")
        pull.take(piece(3, 2, 0, "ab"))
        self.assertEqual(pull.take(piece(3, 5, 1, "c")), ("piece", "a", 2))
        self.assertEqual(pull.take(piece(3, 3, 2, "d")), ("whole", 3, "abcd", 9, 0))

    def test_the_age_of_the_last(self):
        pull = Pull("a")
        pull.take(piece(3, 3, 0, "a", 1))
        pull.take(piece(3, 3, 1, "b", 2))
        self.assertEqual(pull.take(piece(3, 3, 2, "c", 99)), ("whole", 3, "abc", 99, 0))

    def test_the_least_moment(self):
        for moments in itertools.product((0, 4, LONGEST_NUMBER), repeat=3):
            pull = Pull("a")
            for k in range(3):
                told = pull.take(piece(3, 3, k, "z", 9, moments[k]))
            self.assertEqual(told, ("whole", 3, "zzz", 9, min(moments)))

    def test_the_moment_of_what_was_let_go_does_not_count(self):
        pull = Pull("a")
        pull.take(piece(3, 2, 0, "a", 9, 1))
        pull.take(piece(4, 2, 0, "b", 9, 5))
        self.assertEqual(pull.take(piece(4, 2, 1, "c", 9, 6)), ("whole", 4, "bc", 9, 5))

    def test_texts_without_signs_and_long_ones(self):
        pull = Pull("a")
        pull.take(piece(3, 3, 0, ""))
        pull.take(piece(3, 3, 1, SIXTEEN))
        self.assertEqual(pull.gathered(), ("", SIXTEEN))
        self.assertEqual(pull.take(piece(3, 3, 2, SIXTEEN)), ("whole", 3, SIXTEEN * 2, 9, 0))

    def test_bounds(self):
        for version, age, at in itertools.product((1, LONGEST_NUMBER), (0, 99), (0, LONGEST_NUMBER)):
            self.assertEqual(Pull("a").take(piece(version, 1, 0, "x", age, at)), ("whole", version, "x", age, at))
        self.assertEqual(Pull("a").take(piece(1, 16, 15)), ("piece", "a", 0))


class TestRefusals(unittest.TestCase):
    def test_the_right_one_is_taken(self):
        self.assertIs(error_of(Pull("a").take, RIGHT), None)

    def test_no_answer(self):
        pull = Pull("a")
        pull.take(piece(3, 5, 0, "p"))
        for thing in NO_ANSWERS:
            self.assertIs(error_of(pull.take, thing), NoAnswer, repr(thing)[:300])
            self.assertEqual(pull.gathered(), ("p",))
        self.assertEqual(pull.take(piece(3, 5, 1, "q")), ("piece", "a", 2))

    def test_another_page(self):
        pull = Pull("abc")
        for page in ("a", "ab", "abcd", "b"):
            self.assertIs(error_of(pull.take, piece(1, 1, 0, page=page)), NoAnswer)
        self.assertEqual(pull.take(piece(1, 1, 0, page="abc")), ("whole", 1, "x", 9, 0))


class TestWithAHouse(unittest.TestCase):
    def test_what_it_asks_for_comes_whole(self):
        for size, many in itertools.product((1, 2, 3, 4, 16), range(17)):
            house, pull = House((("a", SIXTEEN[:many], 7),), size), Pull("a")
            told, asked = ("piece", "a", 0), 0
            while told[0] == "piece":
                told = pull.take(house.answer(told, asked))
                asked += 1
            self.assertEqual(told, ("whole", 1, SIXTEEN[:many], 7, 0))
            self.assertEqual(asked, max(1, -(-many // size)))

    def test_a_page_written_between(self):
        house, pull = House((("a", "abcdef", 7),), 2), Pull("a")
        self.assertEqual(pull.take(house.answer(("piece", "a", 0), 0)), ("piece", "a", 1))
        self.assertEqual(pull.take(house.answer(("piece", "a", 1), 1)), ("piece", "a", 2))
        house.write("a", "xy", 1)
        # There is no piece 2 any more: the house tells how the page begins now, and that is all of it.
        self.assertEqual(pull.take(house.answer(("piece", "a", 2), 2)), ("whole", 2, "xy", 7, 2))
        self.assertEqual(pull.take(house.answer(("piece", "a", 0), 3)), ("whole", 2, "xy", 7, 3))
        house.write("a", "uvwx", 3)
        self.assertEqual(pull.take(house.answer(("piece", "a", 0), 4)), ("piece", "a", 1))
        house.write("a", "uvwx", 4)
        self.assertEqual(pull.take(house.answer(("piece", "a", 1), 5)), ("piece", "a", 0))
        self.assertEqual(pull.gathered(), ())


class TestArguments(unittest.TestCase):
    def test_by_their_names(self):
        pull = Pull(page="a")
        self.assertEqual(pull.take(answer=piece(1, 2, 0)), ("piece", "a", 1))

    def test_kinds_of_what_is_told(self):
        pull = Pull("a")
        self.assertIs(type(pull.take(piece(1, 2, 0))), tuple)
        self.assertIs(type(pull.gathered()), tuple)
        self.assertEqual(pull.gathered(), pull.gathered())
        self.assertIs(type(pull.take(piece(1, 2, 1))), tuple)

    def test_what_is_handed_in_is_not_changed(self):
        for thing in THINGS + [list(RIGHT), with_part(5, ["x"])]:
            kept = copy.deepcopy(thing)
            error_of(Pull, thing)
            error_of(Pull("a").take, thing)
            self.assertEqual(repr(thing), repr(kept))

    def test_two_pulls_have_nothing_in_common(self):
        one, other = Pull("a"), Pull("a")
        one.take(piece(1, 2, 0))
        self.assertEqual(other.gathered(), ())
        self.assertEqual(other.take(piece(1, 2, 1)), ("piece", "a", 0))
        self.assertEqual(one.gathered(), ("x",))

    def test_methods_stand_in_the_class_itself(self):
        for name in ("take", "gathered"):
            self.assertIn(name, vars(Pull))


if __name__ == "__main__":
    unittest.main()

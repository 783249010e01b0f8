"""[51] questions to a house, and its answers; what a refusal leaves as it was."""

import copy
import itertools
import unittest

from freshreach.errors import NoMoment, NoQuestion
from freshreach.houses import House
from tests.samples import (
    LONGEST_NUMBER, NO_MOMENTS, NO_WORDS, STRANGE_THINGS, THINGS, error_of, no_wholes, part_of, paths_of, put_in,
)

SIXTEEN = "abcdefghijklmnop"
SIZES = (1, 2, 3, 4, 16)
TWO = (("a", "", 0), ("b", "abcde", 99))


def plain_pieces(text, size):
    """The text cut sign by sign."""
    pieces = [""]
    for sign in text:
        if len(pieces[-1]) == size:
            pieces.append("")
        pieces[-1] += sign
    return pieces


class TestPieces(unittest.TestCase):
    def test_of_every_text_and_size(self):
        for size, many in itertools.product(SIZES, range(17)):
            text = SIXTEEN[:many]
            house = House((("b", text, 7),), size)
            pieces = plain_pieces(text, size)
            for k, piece in enumerate(pieces):
                told = house.answer(("piece", "b", k), 5)
                self.assertEqual(told, ("piece", "b", 1, len(pieces), k, piece, 7, 5))

    def test_some_by_hand(self):
        house = House(TWO, 2)
        self.assertEqual(house.answer(("piece", "b", 0), 0), ("piece", "b", 1, 3, 0, "ab", 99, 0))
        self.assertEqual(house.answer(("piece", "b", 1), 0), ("piece", "b", 1, 3, 1, "cd", 99, 0))
        self.assertEqual(house.answer(("piece", "b", 2), 1), ("piece", "b", 1, 3, 2, "e", 99, 1))
        self.assertEqual(house.answer(("piece", "a", 0), 1), ("piece", "a", 1, 1, 0, "", 0, 1))

    def test_a_text_that_is_just_full_has_no_empty_piece(self):
        for size in SIZES:
            house = House((("b", SIXTEEN, 7),), size)
            self.assertEqual(house.answer(("piece", "b", 0), 0)[3], 16 // size + (16 % size > 0))
            self.assertEqual(House((("b", SIXTEEN[:size], 7),), size).answer(("piece", "b", 0), 0)[3], 1)

    def test_beyond_the_last_piece_it_is_the_first(self):
        for size, many in itertools.product(SIZES, range(17)):
            house = House((("b", SIXTEEN[:many], 7),), size)
            first = house.answer(("piece", "b", 0), 0)
            for k in (first[3], first[3] + 1, 16, 17, LONGEST_NUMBER):
                self.assertEqual(house.answer(("piece", "b", k), 0), first)

    def test_of_the_version_by_now(self):
        house = House(TWO, 4)
        self.assertEqual(house.answer(("piece", "b", 1), 0), ("piece", "b", 1, 2, 1, "e", 99, 0))
        house.write("b", "wxyz", 3)
        self.assertEqual(house.answer(("piece", "b", 1), 3), ("piece", "b", 2, 1, 0, "wxyz", 99, 3))
        house.write("b", "", 3)
        self.assertEqual(house.answer(("piece", "b", 0), 4), ("piece", "b", 3, 1, 0, "", 99, 4))
        house.write("b", SIXTEEN, 4)
        self.assertEqual(house.answer(("piece", "b", 3), 4), ("piece", "b", 4, 4, 3, "mnop", 99, 4))


class TestSame(unittest.TestCase):
    def test_of_the_version_by_now(self):
        house = House(TWO, 2)
        for version in range(1, 6):
            self.assertEqual(house.answer(("same", "b", version), version), ("same", "b", version, 99, version))
            house.write("b", "abcde", version)
        self.assertEqual(house.answer(("same", "a", 1), 9), ("same", "a", 1, 0, 9))

    def test_of_another_version_it_is_piece_nought(self):
        house = House(TWO, 2)
        for version in (2, 3, LONGEST_NUMBER):
            self.assertEqual(house.answer(("same", "b", version), 0), ("piece", "b", 1, 3, 0, "ab", 99, 0))
            self.assertEqual(house.answer(("same", "a", version), 0), ("piece", "a", 1, 1, 0, "", 0, 0))
        house.write("b", "xyz", 1)
        for version in (1, 3, 4):
            self.assertEqual(house.answer(("same", "b", version), 1), ("piece", "b", 2, 2, 0, "xy", 99, 1))


class TestNone(unittest.TestCase):
    def test_where_it_has_no_such_page(self):
        for house in (House(TWO, 2), House((), 16)):
            for page in ("c", "aa", "abcdefgh", "zzzzzzzz"):
                for word, number in (("piece", 0), ("piece", 9), ("same", 1), ("same", 9), ("same", LONGEST_NUMBER)):
                    self.assertEqual(house.answer((word, page, number), 4), ("none", page, 4))


class TestRefusals(unittest.TestCase):
    def assert_no_question(self, thing):
        house = House(TWO, 2)
        self.assertIs(error_of(house.answer, thing, 0), NoQuestion, repr(thing)[:300])
        self.assertIs(error_of(house.answer, thing, -1), NoQuestion, repr(thing)[:300])

    def test_no_question(self):
        for thing in THINGS + STRANGE_THINGS:
            self.assert_no_question(thing)
        for question in (("piece", "b", 0), ("same", "b", 1), ("piece", "c", 0)):
            for other in (question[:2], question + (0,), list(question), dict(enumerate(question)), (question,)):
                self.assert_no_question(other)
            for path in paths_of(question):
                for thing in THINGS + STRANGE_THINGS:
                    if type(thing) is not int and type(part_of(question, path)) in (tuple, int):
                        self.assert_no_question(put_in(question, path, thing))

    def test_words_of_questions(self):
        for word in ("", "Piece", "PIECE", "pieces", "Same", "none", "who", "same ", None, 0, [], ("piece",), b"piece"):
            self.assert_no_question((word, "b", 1))

    def test_pages_of_questions(self):
        for page in NO_WORDS:
            self.assert_no_question(("piece", page, 0))
            self.assert_no_question(("same", page, 1))

    def test_numbers_of_questions(self):
        for number in no_wholes(0):
            self.assert_no_question(("piece", "b", number))
            self.assert_no_question(("piece", "c", number))
        for number in no_wholes(1):
            self.assert_no_question(("same", "b", number))
            self.assert_no_question(("same", "c", number))

    def test_no_moment(self):
        for question in (("piece", "b", 0), ("piece", "c", 0), ("same", "b", 1), ("same", "b", 2), ("same", "c", 2)):
            house = House(TWO, 2)
            house.answer(question, 5)
            for now in NO_MOMENTS + [0, 3, 4]:
                self.assertIs(error_of(house.answer, question, now), NoMoment, repr(now)[:300])
                self.assertIs(error_of(house.write, "a", "x", now), NoMoment, repr(now)[:300])
            self.assertEqual(house.write("a", "x", 5), 2)
            self.assertIs(error_of(house.answer, question, 4), NoMoment)

    def test_what_is_handed_in_is_not_changed(self):
        house = House(TWO, 2)
        for thing in THINGS:
            kept = copy.deepcopy(thing)
            for question in (thing, (thing, "b", 0), ("piece", thing, 0), ("piece", "b", thing), ("same", "b", thing)):
                error_of(house.answer, question, 0)
            for told in ((thing, "x", 0), ("a", thing, 0)):
                error_of(house.write, *told)
            if type(thing) is not int:
                error_of(house.write, "a", "x", thing)
                error_of(house.answer, ("piece", "b", 0), thing)
            error_of(house.stood, thing, 0)
            error_of(house.stood, "a", thing)
            self.assertEqual(repr(thing), repr(kept))


class TestBehindARefusal(unittest.TestCase):
    def house(self):
        house = House(TWO, 2)
        house.write("a", "xyz", 2)
        house.answer(("piece", "b", 0), 3)
        return house

    def answers(self, house):
        questions = [("piece", page, k) for page in ("a", "b", "c") for k in range(4)]
        questions += [("same", page, version) for page in ("a", "b", "c") for version in range(1, 4)]
        told = [house.stood(page, moment) for page in "ab" for moment in range(4)]
        told += [error_of(house.stood, "a", 4), error_of(house.answer, questions[0], 2)]
        told += [error_of(house.write, "a", "", 2)]
        told += [house.answer(question, 3) for question in questions]
        told += [house.write("b", "q", 3), house.stood("b", 3)]
        return told + [house.answer(question, 4) for question in questions]

    def test_all_is_as_ahead_of_it(self):
        refused = [
            lambda house: house.write("c", "x", 50), lambda house: house.write([], "x", 3),
            lambda house: house.write("a", "X", 50), lambda house: house.write("a", None, 3),
            lambda house: house.write("a", "x", 2), lambda house: house.write("a", "x", True),
            lambda house: house.answer(("piece", "b", -1), 50), lambda house: house.answer(("same", "b", 0), 50),
            lambda house: house.answer(["piece", "b", 0], 3), lambda house: house.answer(("piece", "b", 0), 2),
            lambda house: house.answer(("piece", "c", 0), None), lambda house: house.stood("c", 0),
            lambda house: house.stood("a", 4), lambda house: house.stood("a", -1),
        ]
        for more in itertools.product(refused, repeat=2):
            tried = self.house()
            for call in more:
                self.assertIsNotNone(error_of(call, tried))
            self.assertEqual(self.answers(tried), self.answers(self.house()))

    def test_asked_twice(self):
        house = self.house()
        questions = [("piece", "a", 1), ("piece", "b", 9), ("same", "a", 2), ("same", "a", 1), ("piece", "c", 0)]
        first = [house.answer(question, 7) for question in questions]
        self.assertEqual([house.answer(question, 7) for question in questions], first)
        self.assertEqual([house.answer(question, 7) for question in questions[::-1]], first[::-1])
        self.assertEqual([house.stood("a", 2), house.stood("a", 2)], [(2, "xyz"), (2, "xyz")])


if __name__ == "__main__":
    unittest.main()

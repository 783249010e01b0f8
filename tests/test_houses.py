"""[50] houses: pages, versions, what is written, and what stood there [51]."""

import copy
import itertools
import unittest

from freshreach.errors import NoMoment, NoNumber, NoPage, NoPages, NoText
from freshreach.houses import House
from tests.samples import (
    LONGEST_NUMBER, NO_LETTERS, NO_MOMENTS, NO_WORDS, STRANGE_THINGS, THINGS, as_lists, error_of, no_wholes, part_of,
    paths_of, put_in,
)

SIXTEEN = "abcdefghijklmnop"
EIGHT = (
    ("a", "", 0), ("ab", SIXTEEN, 99), ("abc", "z", 5), ("b", "abc", 3), ("c", "", 99), ("ca", "abcd", 1),
    ("z", "zzzzz", 50), ("zzzzzzzz", "q", 8),
)
TWO = (("a", "", 0), ("b", "abc", 99))
NOT_ITS_PAGES = NO_WORDS + ["c", "aa", "ab", "z", ("a", "", 0)]


class TestPages(unittest.TestCase):
    def test_none_to_eight(self):
        for many in range(9):
            for pages in (EIGHT[:many], EIGHT[8 - many:]):
                house = House(pages, 16)
                for page, text, age in EIGHT:
                    if (page, text, age) in pages:
                        self.assertEqual(house.stood(page, 0), (1, text))
                        self.assertEqual(house.answer(("same", page, 1), 0), ("same", page, 1, age, 0))
                    else:
                        self.assertIs(error_of(house.stood, page, 0), NoPage)
        nine = tuple([(page, "", 0) for page in "abcdefghi"])
        self.assertIs(error_of(House, nine[:8], 1), None)
        self.assertIs(error_of(House, nine, 1), NoPages)

    def test_words(self):
        for page in ("a", "z", "abcdefgh"):
            self.assertEqual(House(((page, "x", 1),), 1).stood(page, 0), (1, "x"))
        for page in NO_WORDS:
            self.assertIs(error_of(House, ((page, "x", 1),), 1), NoPages, repr(page)[:300])

    def test_texts(self):
        for many in range(17):
            text = SIXTEEN[:many]
            self.assertEqual(House((("a", text, 1),), 1).stood("a", 0), (1, text))
        for text in NO_LETTERS:
            self.assertIs(error_of(House, (("a", text, 1),), 1), NoPages, repr(text)[:300])

    def test_ages(self):
        for age in range(100):
            house = House((("a", "x", age),), 1)
            self.assertEqual(house.answer(("piece", "a", 0), 0), ("piece", "a", 1, 1, 0, "x", age, 0))
        for age in no_wholes(0, 99):
            self.assertIs(error_of(House, (("a", "x", age),), 1), NoPages, repr(age)[:300])

    def test_rises_and_unlike(self):
        three = EIGHT[:3]
        for pages in itertools.permutations(three):
            self.assertIs(error_of(House, pages, 1), None if pages == three else NoPages)
        for pages in (
            (("a", "x", 1), ("a", "x", 1)), (("a", "x", 1), ("a", "x", 2)), (("a", "x", 1), ("a", "y", 1)),
            (("a", "x", 1), ("b", "x", 1), ("b", "xy", 0)),
        ):
            self.assertIs(error_of(House, pages, 1), NoPages)

    def test_no_pages(self):
        pages = [thing for thing in THINGS + STRANGE_THINGS if thing != ()]
        for thing in pages + [TWO[0], dict(enumerate(TWO)), (("a", ""),), (("a", "", 0, 0),), ((0, "a", "", 0),)]:
            self.assertIs(error_of(House, thing, 1), NoPages, repr(thing)[:300])
        for path in paths_of(TWO):
            part = part_of(TWO, path)
            if isinstance(part, tuple):
                self.assertIs(error_of(House, put_in(TWO, path, as_lists(part)), 1), NoPages)
                self.assertIs(error_of(House, put_in(TWO, path, dict(enumerate(part))), 1), NoPages)
            for thing in THINGS:
                if path and type(thing) is not int and not isinstance(thing, str):
                    self.assertIs(error_of(House, put_in(TWO, path, thing), 1), NoPages, repr(thing)[:300])

    def test_sizes(self):
        for size in (1, 2, 3, 4, 16):
            self.assertIs(error_of(House, TWO, size), None)
            self.assertIs(error_of(House, (), size), None)
        for size in no_wholes(1, 4) + [7, 8, 15, 17, 32]:
            if size != 16:
                self.assertIs(error_of(House, TWO, size), NoNumber, repr(size)[:300])
                self.assertIs(error_of(House, (), size), NoNumber, repr(size)[:300])

    def test_no_pages_ahead_of_no_number(self):
        for pages, size in itertools.product((None, [], TWO[::-1], list(TWO)), (1, 0, 5, None, True, [])):
            self.assertIs(error_of(House, pages, size), NoPages)

    def test_what_is_handed_in_is_not_changed(self):
        for thing in THINGS + [TWO, as_lists(TWO)]:
            kept = copy.deepcopy(thing)
            error_of(House, thing, 1)
            error_of(House, TWO, thing)
            self.assertEqual(repr(thing), repr(kept))


class TestWrite(unittest.TestCase):
    def test_versions(self):
        house = House(TWO, 2)
        for turn in range(20):
            self.assertEqual(house.stood("b", turn // 2 if turn else 0)[0], turn + 1)
            self.assertEqual(house.write("b", SIXTEEN[:turn % 17], (turn + 1) // 2), turn + 2)
        self.assertEqual(house.stood("a", 10), (1, ""))
        self.assertEqual(house.write("a", "x", 10), 2)

    def test_the_same_text_is_another_version(self):
        house = House(TWO, 2)
        self.assertEqual(house.write("b", "abc", 0), 2)
        self.assertEqual(house.write("b", "abc", 0), 3)
        self.assertEqual(house.write("a", "", 0), 2)
        self.assertEqual(house.stood("b", 0), (3, "abc"))

    def test_texts(self):
        house = House(TWO, 2)
        for many in range(17):
            self.assertEqual(house.write("a", SIXTEEN[:many], 4), many + 2)
            self.assertEqual(house.stood("a", 4), (many + 2, SIXTEEN[:many]))

    def test_its_age_stays(self):
        house = House(TWO, 16)
        house.write("b", "x", 7)
        self.assertEqual(house.answer(("piece", "b", 0), 7), ("piece", "b", 2, 1, 0, "x", 99, 7))
        self.assertEqual(house.answer(("same", "b", 2), 7), ("same", "b", 2, 99, 7))

    def test_no_page(self):
        house, bare = House(TWO, 2), House((), 2)
        for page in NOT_ITS_PAGES:
            self.assertIs(error_of(house.write, page, "x", 0), NoPage, repr(page)[:300])
        for page in NOT_ITS_PAGES + ["a", "b"]:
            self.assertIs(error_of(bare.write, page, "x", 0), NoPage, repr(page)[:300])
            self.assertIs(error_of(bare.stood, page, 0), NoPage, repr(page)[:300])

    def test_no_text(self):
        house = House(TWO, 2)
        for text in NO_LETTERS:
            self.assertIs(error_of(house.write, "a", text, 0), NoText, repr(text)[:300])
            with self.assertRaises(NoText) as caught:
                house.write("a", text, 0)
            self.assertIs(type(caught.exception.row), int)
            self.assertEqual(caught.exception.row, 0)
        self.assertEqual(house.stood("a", 0), (1, ""))

    def test_no_moment_at_first(self):
        for now in NO_MOMENTS:
            self.assertIs(error_of(House(TWO, 2).write, "a", "x", now), NoMoment, repr(now)[:300])
            self.assertIs(error_of(House(TWO, 2).answer, ("piece", "a", 0), now), NoMoment, repr(now)[:300])
            self.assertIs(error_of(House(TWO, 2).stood, "a", now), NoMoment, repr(now)[:300])

    def test_no_moment(self):
        house = House(TWO, 2)
        house.write("a", "x", 5)
        for now in NO_MOMENTS + [0, 3, 4]:
            self.assertIs(error_of(house.write, "a", "y", now), NoMoment, repr(now)[:300])
            self.assertIs(error_of(house.write, "b", "y", now), NoMoment, repr(now)[:300])
        self.assertEqual(house.write("a", "z", 5), 3)

    def test_their_order(self):
        for page, text, now in itertools.product(("a", "c", None, []), ("x", "X", None, []), (5, 4, None, [])):
            house = House(TWO, 2)
            house.write("b", "x", 5)
            due = NoPage if page != "a" else NoText if text != "x" else NoMoment if now != 5 else None
            self.assertIs(error_of(house.write, page, text, now), due)


class TestStood(unittest.TestCase):
    def test_behind_all_that_was_done_at_a_moment(self):
        house = House(TWO, 2)
        house.write("b", "x", 3)
        house.write("b", "y", 3)
        self.assertEqual(house.stood("b", 3), (3, "y"))
        house.write("b", "z", 3)
        house.write("b", "w", 5)
        told = [(1, "abc"), (1, "abc"), (1, "abc"), (4, "z"), (4, "z"), (5, "w")]
        self.assertEqual([house.stood("b", moment) for moment in range(6)], told)
        self.assertEqual([house.stood("a", moment) for moment in range(6)], [(1, "")] * 6)

    def test_at_the_moment_nought(self):
        house = House(TWO, 2)
        self.assertEqual(house.stood("b", 0), (1, "abc"))
        house.write("b", "x", 0)
        self.assertEqual(house.stood("b", 0), (2, "x"))

    def test_up_to_the_last_moment(self):
        for last in (0, 1, 9, LONGEST_NUMBER):
            for deed in (
                lambda house: house.write("a", "", last), lambda house: house.answer(("piece", "b", 0), last),
                lambda house: house.answer(("same", "b", 7), last), lambda house: house.answer(("piece", "q", 0), last),
            ):
                house = House(TWO, 2)
                deed(house)
                self.assertEqual(house.stood("b", 0), (1, "abc"))
                self.assertEqual(house.stood("b", last), (1, "abc"))
                self.assertIs(error_of(house.stood, "b", last + 1), NoMoment)
                self.assertIs(error_of(house.stood, "b", last + 100), NoMoment)

    def test_nought_at_first(self):
        self.assertEqual(House(TWO, 2).stood("a", 0), (1, ""))
        self.assertIs(error_of(House(TWO, 2).stood, "a", 1), NoMoment)

    def test_it_turns_nothing(self):
        house = House(TWO, 2)
        house.write("b", "x", 7)
        self.assertEqual([house.stood("b", moment)[0] for moment in (7, 0, 6, 7, 3)], [2, 1, 1, 2, 1])
        self.assertIs(error_of(house.write, "b", "y", 6), NoMoment)
        self.assertEqual(house.write("b", "y", 7), 3)

    def test_no_page_then_no_moment(self):
        house = House(TWO, 2)
        house.write("b", "x", 5)
        for page in NOT_ITS_PAGES:
            self.assertIs(error_of(house.stood, page, 5), NoPage, repr(page)[:300])
            self.assertIs(error_of(house.stood, page, 6), NoPage, repr(page)[:300])
            self.assertIs(error_of(house.stood, page, None), NoPage, repr(page)[:300])
        for moment in NO_MOMENTS + [6, LONGEST_NUMBER]:
            self.assertIs(error_of(house.stood, "a", moment), NoMoment, repr(moment)[:300])


class TestAgainstAPlainList(unittest.TestCase):
    def test_all_short_runs(self):
        steps = [(page, text, moments) for page in "ab" for text in (None, "x", "yy") for moments in (0, 1, 2)]
        for deeds in itertools.product(steps, repeat=3):
            house, now = House(TWO, 2), 0
            written = [(0, page, text) for page, text, age in TWO]
            for page, text, moments in deeds:
                now += moments
                if text is None:
                    house.answer(("piece", page, 0), now)
                else:
                    written.append((now, page, text))
                    self.assertEqual(house.write(page, text, now), [row[1] for row in written].count(page))
                for other, moment in itertools.product("ab", range(now + 1)):
                    texts = [row[2] for row in written if row[1] == other and row[0] <= moment]
                    self.assertEqual(house.stood(other, moment), (len(texts), texts[-1]), deeds)
                self.assertIs(error_of(house.stood, page, now + 1), NoMoment)


class TestArguments(unittest.TestCase):
    def test_by_their_names(self):
        house = House(size=2, pages=TWO)
        self.assertEqual(house.write(now=1, text="x", page="a"), 2)
        self.assertEqual(house.answer(now=2, question=("same", "a", 2)), ("same", "a", 2, 0, 2))
        self.assertEqual(house.stood(moment=0, page="a"), (1, ""))

    def test_kinds_of_what_is_told(self):
        house = House(TWO, 2)
        self.assertIs(type(house.write("a", "x", 0)), int)
        self.assertIs(type(house.stood("a", 0)), tuple)
        self.assertIs(type(house.answer(("piece", "a", 0), 0)), tuple)

    def test_two_houses_have_nothing_in_common(self):
        one, other = House(TWO, 2), House(TWO, 2)
        one.write("a", "x", 9)
        self.assertEqual(other.write("a", "y", 0), 2)
        self.assertEqual(one.stood("a", 9), (2, "x"))
        self.assertEqual(other.stood("a", 0), (2, "y"))

    def test_methods_stand_in_the_class_itself(self):
        for name in ("write", "answer", "stood"):
            self.assertIn(name, vars(House))


if __name__ == "__main__":
    unittest.main()

"""[110] texts of plans and weathers."""

import copy
import itertools
import random
import unittest

from freshreach.errors import NoPlan, NoText, NoWeather
from freshreach.texts import plan_text, read_plan, read_weather, weather_text
from tests.runs import chance_plan, chance_weather
from tests.samples import APART, GREAT, SMALL, STRANGE_THINGS, THINGS, TOWN, as_lists, error_of, put_in

TOWN_ROWS = [
    "bounds 2 5 12 2 2",
    "place door",
    "place book",
    "place house",
    "place house",
    "place door",
    "road 0 1 1",
    "road 0 2 2",
    "road 0 3 3",
    "road 1 4 2",
    "road 2 4 1",
    "name home 2 10",
    "name shop 3 99",
    "page 2 news 8 abc",
    "page 2 note 4 -",
    "page 3 news 99 xyz",
]
FATES = (
    (0, ("lost",)), (3, ("late", 1)), (4, ("late", 60)), (20, ("twice", 0)), (21, ("twice", 60)), (400, ("lost",)),
)
FATE_ROWS = ["lost 0", "late 3 1", "late 4 60", "twice 20 0", "twice 21 60", "lost 400"]
NO_TEXTS = [thing for thing in THINGS + STRANGE_THINGS if not isinstance(thing, str)] + [list(TOWN_ROWS), TOWN, FATES]

NO_NUMBERS = [
    "", "-", "-1", "+1", "00", "01", "007", "1.0", "0x1", "1_0", "a", "1a", "1234567890", "0000000000", "\u0661",
    "\u00b2", "1\t", "\t1", "1\r", "True", "None",
]
NO_WORDS = ["", "-", "A", "Ab", "aB", "a1", "1", "a-b", "abcdefghi", "a\t", "a.", "\u00e4", "a\r"]
NO_PAGE_TEXTS = ["", "--", "A", "a-", "-a", "abcdefghijklmnopq", "a1", "1", "a\t", "\u00e4", "abc\r"]
NO_ROLES = ["", "-", "House", "houses", "doo", "0", "a", "house\t", "house\r"]


def row_of(call, text):
    """The row by which the text is refused, None where it isn't."""
    try:
        call(text)
    except NoText as error:
        return error.row
    return None


def plan_with(at, *rows):
    """The text of TOWN with other rows in the place of the one with this number, from 1."""
    return "\n".join(TOWN_ROWS[:at - 1] + list(rows) + TOWN_ROWS[at:])


def with_word(row, place, word):
    words = row.split(" ")
    words[place] = word
    return " ".join(words)


class TestWritten(unittest.TestCase):
    def test_a_plan(self):
        self.assertEqual(plan_text(TOWN), "\n".join(TOWN_ROWS))

    def test_the_least_plan(self):
        rows = ["bounds 1 1 1 1 1", "place house", "place door", "place book", "road 0 1 1", "road 0 2 1", "road 1 2 1"]
        rows += ["name a 0 0", "page 0 a 0 -"]
        self.assertEqual(plan_text(SMALL), "\n".join(rows))
        bare = put_in(SMALL, (1,), ())
        self.assertEqual(plan_text(bare), "\n".join(rows[:4] + rows[7:]))
        self.assertEqual(read_plan("\n".join(rows[:4] + rows[7:])), bare)

    def test_a_weather(self):
        self.assertEqual(weather_text(FATES), "\n".join(FATE_ROWS))
        for many in range(7):
            self.assertEqual(weather_text(FATES[:many]), "\n".join(FATE_ROWS[:many]))
        self.assertEqual(weather_text(()), "")

    def test_refused(self):
        for thing in THINGS + STRANGE_THINGS + [list(TOWN), as_lists(TOWN), TOWN[:4], put_in(TOWN, (4, 0), 5)]:
            self.assertIs(error_of(plan_text, thing), NoPlan, repr(thing)[:300])
            if thing != ():
                self.assertIs(error_of(weather_text, thing), NoWeather, repr(thing)[:300])
        for thing in (FATES[::-1], list(FATES), FATES + ((401, ("lost",)),), ((0, ("late", 0)),)):
            self.assertIs(error_of(weather_text, thing), NoWeather)

    def test_read_back(self):
        chance = random.Random(3)
        for plan in [SMALL, APART, GREAT, TOWN] + [chance_plan(chance) for _ in range(100)]:
            self.assertEqual(read_plan(plan_text(plan)), plan)
        for weather in [(), FATES] + [chance_weather(chance) for _ in range(100)]:
            self.assertEqual(read_weather(weather_text(weather)), weather)


class TestReadPlan(unittest.TestCase):
    def check(self, text, row):
        self.assertEqual(row_of(read_plan, text), row, repr(text)[:400])

    def test_no_text(self):
        for thing in NO_TEXTS:
            self.check(thing, 0)

    def test_bounds_first(self):
        self.check("", 1)
        self.check("\n", 1)
        for row in TOWN_ROWS[1:] + ["", " ", "bounds", "lost 0", "plan"]:
            self.check(row, 1)
            self.check("\n".join([row] + TOWN_ROWS), 1)
            self.check(plan_with(1, row), 1)

    def test_bounds_but_once(self):
        for at in range(2, 17):
            self.check(plan_with(at, TOWN_ROWS[0], TOWN_ROWS[at - 1]), at)
        self.check("\n".join(TOWN_ROWS + TOWN_ROWS[:1]), 17)

    def test_each_row_in_its_place(self):
        kinds = [row.split(" ")[0] for row in TOWN_ROWS]
        order = ["bounds", "place", "road", "name", "page"]
        for at, other in itertools.product(range(2, 17), range(1, 16)):
            text = plan_with(at, TOWN_ROWS[other], TOWN_ROWS[at - 1])
            ahead, inserted, behind = [order.index(kind) for kind in (kinds[at - 2], kinds[other], kinds[at - 1])]
            if inserted < ahead:
                self.check(text, at)
            elif inserted > behind:
                self.check(text, at + 1)
            elif row_of(read_plan, text) is not None:
                self.check(text, 18)

    def test_what_is_none_of_the_forms(self):
        for at in range(1, 17):
            row = TOWN_ROWS[at - 1]
            for other in (
                "", " ", row + " ", " " + row, row + " 0", row + " a", row.rpartition(" ")[0], row + "\r", row + "\t",
                row.replace(" ", "  ", 1), row.replace(" ", "\t", 1), row.upper(), row.title(), "x" + row,
                row.split(" ")[0], "lost 0", "late 0 1", "ask 0 home news 9 9", "-", "0",
            ):
                self.check(plan_with(at, other), at)
            self.check(plan_with(at, "", row), at)
        self.check("\n".join(TOWN_ROWS) + "\n", 17)
        self.check("\n" + "\n".join(TOWN_ROWS), 1)
        self.check("\r\n".join(TOWN_ROWS), 1)
        self.check(" ".join(TOWN_ROWS), 1)

    def test_numbers(self):
        for at, places in ((1, range(1, 6)), (7, range(1, 4)), (12, (2, 3)), (14, (1, 3))):
            for place, word in itertools.product(places, NO_NUMBERS):
                self.check(plan_with(at, with_word(TOWN_ROWS[at - 1], place, word)), at)
            for place in places:
                # A number, though none that a plan has there.
                self.check(plan_with(at, with_word(TOWN_ROWS[at - 1], place, "999999999")), 17)

    def test_roles_words_and_texts(self):
        for role in NO_ROLES:
            self.check(plan_with(2, with_word("place door", 1, role)), 2)
        for word in NO_WORDS:
            self.check(plan_with(13, with_word("name shop 3 99", 1, word)), 13)
            self.check(plan_with(16, with_word("page 3 news 99 xyz", 2, word)), 16)
        for text in NO_PAGE_TEXTS:
            self.check(plan_with(16, with_word("page 3 news 99 xyz", 4, text)), 16)
        for text in ("a", "abcdefghijklmnop", "-"):
            plan = read_plan(plan_with(16, with_word("page 3 news 99 xyz", 4, text)))
            self.assertEqual(plan, put_in(TOWN, (3, 2, 2), "" if text == "-" else text))

    def test_the_first_row_at_fault(self):
        for at, other in itertools.combinations(range(1, 17), 2):
            rows = list(TOWN_ROWS)
            rows[at - 1] = rows[other - 1] = "x"
            self.check("\n".join(rows), at)

    def test_no_plan_comes_of_them(self):
        for text in (
            plan_with(1, "bounds 5 5 12 2 2"), plan_with(1, "bounds 2 0 12 2 2"), plan_with(1, "bounds 2 5 61 2 2"),
            plan_with(2, "place book"), plan_with(3, "place cross"), plan_with(4, "place door"),
            plan_with(7, "road 0 1 10"), plan_with(7, "road 1 0 1"), plan_with(7, "road 0 5 1"),
            plan_with(7, "road 0 2 1"), plan_with(8, TOWN_ROWS[6]), plan_with(7, "road 0 4 1"),
            plan_with(12, "name home 0 10"), plan_with(12, "name home 2 100"), plan_with(12, "name shop 2 10"),
            plan_with(12, "name zoo 2 10"), plan_with(14, "page 0 news 8 abc"), plan_with(14, "page 2 news 100 abc"),
            plan_with(14, "page 2 note 8 abc"), plan_with(14, "page 3 zoo 8 abc"),
        ):
            self.check(text, 17)
        # A part with too few rows, or with too many.
        for many in range(1, 14):
            self.check("\n".join(TOWN_ROWS[:many]), many + 1)
        self.check("\n".join(TOWN_ROWS[:11] + TOWN_ROWS[13:]), 15)
        self.check("\n".join(TOWN_ROWS[:1] + TOWN_ROWS[6:]), 12)
        self.check("\n".join(TOWN_ROWS[:6] + ["place cross"] * 4 + TOWN_ROWS[6:]), 21)
        self.check("\n".join(TOWN_ROWS + ["page 3 note 9 -"] * 30), 47)

    def test_kinds(self):
        plan = read_plan("\n".join(TOWN_ROWS))
        self.assertEqual(repr(plan), repr(TOWN))
        self.assertEqual(read_plan(text="\n".join(TOWN_ROWS)), TOWN)
        self.assertIs(type(plan_text(plan=TOWN)), str)


class TestReadWeather(unittest.TestCase):
    def check(self, text, row):
        self.assertEqual(row_of(read_weather, text), row, repr(text)[:400])

    def test_right_ones(self):
        self.assertEqual(read_weather(""), ())
        self.assertEqual(repr(read_weather("\n".join(FATE_ROWS))), repr(FATES))
        self.assertEqual(read_weather(text="lost 0"), ((0, ("lost",)),))
        self.assertIs(type(weather_text(weather=())), str)

    def test_no_text(self):
        for thing in NO_TEXTS:
            self.check(thing, 0)

    def test_what_is_none_of_the_forms(self):
        for at in range(1, 7):
            row = FATE_ROWS[at - 1]
            for other in (
                "", " ", row + " ", " " + row, row + " 0", row.rpartition(" ")[0], row.upper(),
                row.replace(" ", "  ", 1), row.replace(" ", "\t", 1), "x" + row, row.split(" ")[0], row + "\r",
                "lost", "late 0", "twice 0",
                "lost 0 0", "late 0 1 2", "gone 0", "bounds 2 5 12 2 2", "-", "0",
            ):
                self.check("\n".join(FATE_ROWS[:at - 1] + [other] + FATE_ROWS[at:]), at)
        self.check("\n", 1)
        self.check("lost 0\n", 2)
        self.check("\nlost 0", 1)

    def test_numbers(self):
        for word in NO_NUMBERS:
            self.check(f"lost 0\nlost {word}", 2)
            self.check(f"lost 0\nlate {word} 5", 2)
            self.check(f"lost 0\nlate 3 {word}", 2)
            self.check(f"twice {word} 5\nx", 1)
            self.check(f"twice 3 {word}", 1)

    def test_any_row_anywhere(self):
        for rows in itertools.permutations(FATE_ROWS[1:5]):
            self.check("\n".join(rows), None if list(rows) == FATE_ROWS[1:5] else 5)

    def test_no_weather_comes_of_them(self):
        for row in ("lost 401", "late 0 0", "late 0 61", "twice 0 61", "late 401 1", "lost 999999999"):
            self.check(row, 2)
        for row in ("late 0 1", "late 0 60", "twice 0 0", "twice 0 60", "lost 400"):
            self.check(row, None)
        self.check("lost 1\nlost 1", 3)
        self.check("lost 1\nlate 1 2", 3)
        self.check("lost 1\nlost 0", 3)
        self.check("\n".join([f"lost {number}" for number in range(6)]), None)
        self.check("\n".join([f"lost {number}" for number in range(7)]), 8)
        self.check("\n".join([f"lost {number}" for number in range(300)]), 301)


class TestNothingIsChanged(unittest.TestCase):
    def test_of_what_is_handed_in(self):
        for thing in THINGS + [list(TOWN), as_lists(TOWN), as_lists(FATES)]:
            kept = copy.deepcopy(thing)
            for call in (plan_text, weather_text, read_plan, read_weather):
                error_of(call, thing)
            self.assertEqual(repr(thing), repr(kept))


if __name__ == "__main__":
    unittest.main()

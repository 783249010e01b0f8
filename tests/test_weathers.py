"""[10] weathers."""

import copy
import unittest

from freshreach.plans import is_weather
from tests.samples import LONGEST_NUMBER, THINGS, as_lists, part_of, paths_of, put_in

LOST = ("lost",)
SIX = (
    (0, ("late", 1)), (1, LOST), (2, ("twice", 0)), (3, ("twice", 60)), (399, ("late", 60)), (400, LOST),
)


class TestWeathers(unittest.TestCase):
    def assert_weather(self, thing):
        self.assertIs(is_weather(thing), True, repr(thing)[:500])

    def assert_no_weather(self, thing):
        self.assertIs(is_weather(thing), False, repr(thing)[:500])

    def test_none_to_six_fates(self):
        for many in range(7):
            self.assert_weather(SIX[:many])
            self.assert_weather(SIX[6 - many:])
        self.assert_no_weather(SIX[:5] + ((400, LOST), (401, LOST)))
        self.assert_no_weather(SIX[:4] + ((4, LOST),) + SIX[4:])
        self.assert_no_weather(tuple([(number, LOST) for number in range(7)]))
        self.assert_no_weather(tuple([(number, LOST) for number in range(400)]))

    def test_handed_in_by_name(self):
        self.assertIs(is_weather(thing=SIX), True)
        self.assertIs(is_weather(thing=0), False)

    def test_asked_again(self):
        for thing in (SIX, (), SIX[::-1]):
            self.assertIs(is_weather(thing), is_weather(thing))

    def test_numbers(self):
        for number in (0, 1, 399, 400):
            self.assert_weather(((number, LOST),))
        for number in (-1, 401, LONGEST_NUMBER, -LONGEST_NUMBER):
            self.assert_no_weather(((number, LOST),))

    def test_a_number_twice(self):
        for weather in (
            ((3, LOST), (3, LOST)),
            ((3, ("late", 1)), (3, ("late", 2))),
            ((3, ("late", 1)), (3, LOST)),
            ((3, LOST), (3, ("twice", 0))),
            ((1, LOST), (3, ("late", 5)), (3, ("twice", 5))),
        ):
            self.assert_no_weather(weather)

    def test_rises(self):
        self.assert_no_weather(((4, LOST), (3, LOST)))
        self.assert_no_weather(((4, ("late", 1)), (3, ("twice", 1))))
        self.assert_no_weather(((1, LOST), (4, LOST), (3, LOST)))
        self.assert_no_weather(SIX[::-1])
        # The fates of numbers that rise may fall.
        self.assert_weather(((3, ("twice", 9)), (4, ("late", 2))))

    def test_late(self):
        for moments in range(1, 61):
            self.assert_weather(((0, ("late", moments)),))
        for moments in (0, 61, -1, LONGEST_NUMBER, -LONGEST_NUMBER):
            self.assert_no_weather(((0, ("late", moments)),))

    def test_twice(self):
        for moments in range(61):
            self.assert_weather(((0, ("twice", moments)),))
        for moments in (61, -1, LONGEST_NUMBER, -LONGEST_NUMBER):
            self.assert_no_weather(((0, ("twice", moments)),))

    def test_lost(self):
        self.assert_weather(((0, LOST),))
        for fate in (("lost", 0), ("lost", 1), ("lost", None), ("lost", "lost"), "lost", ["lost"], {"lost": 0}):
            self.assert_no_weather(((0, fate),))

    def test_other_words(self):
        for word in ("", "Late", "LATE", "Twice", "Lost", "late ", "lates", "once", "gone", None, 0, ()):
            self.assert_no_weather(((0, (word,)),))
            self.assert_no_weather(((0, (word, 1)),))

    def test_other_lengths(self):
        for fate in ((), ("late",), ("twice",), ("late", 1, 1), ("twice", 1, 1), (1, "late"), (1,), "late", "twice"):
            self.assert_no_weather(((0, fate),))
        for fate in (LOST, ("late", 1), ("twice", 0)):
            for row in ((), (0,), (fate,), (0, fate, 0), (0, fate, fate), (0, 0, fate), (0, *fate), (fate, 0)):
                self.assert_no_weather((row,))
        self.assert_no_weather((0, LOST))

    def test_truths(self):
        for truth in (True, False):
            self.assert_no_weather(((truth, LOST),))
            self.assert_no_weather(((0, ("late", truth)),))
            self.assert_no_weather(((0, ("twice", truth)),))
            self.assert_no_weather(((0, (truth,)),))

    def test_lists_and_dicts(self):
        for path in paths_of(SIX):
            part = part_of(SIX, path)
            if isinstance(part, tuple):
                self.assert_no_weather(put_in(SIX, path, list(part)))
                self.assert_no_weather(put_in(SIX, path, as_lists(part)))
                self.assert_no_weather(put_in(SIX, path, dict(enumerate(part))))
        self.assert_no_weather([])
        self.assert_no_weather({})

    def test_things_of_every_kind(self):
        for thing in THINGS:
            self.assertIs(is_weather(thing), thing == () and isinstance(thing, tuple), repr(thing)[:500])

    def test_things_of_every_kind_as_each_part(self):
        for path in paths_of(SIX)[1:]:
            part = part_of(SIX, path)
            for thing in THINGS:
                changed = put_in(SIX, path, thing)
                if type(thing) is int and type(part) is int:
                    self.assertIsInstance(is_weather(changed), bool)
                else:
                    self.assert_no_weather(changed)

    def test_nothing_is_changed(self):
        things = THINGS + [put_in(SIX, path, as_lists(part_of(SIX, path))) for path in paths_of(SIX)]
        for thing in [SIX] + things:
            kept = copy.deepcopy(thing)
            is_weather(thing)
            self.assertEqual(repr(thing), repr(kept))


if __name__ == "__main__":
    unittest.main()

"""The row `errors` of the interface."""

import unittest

from freshreach import errors

WITH_TEXT = (
    "NoPlan", "NoWeather", "NoCuts", "NoPlace", "NoRoad", "NoNumber", "NoMoment", "NoKey", "NoNames", "NoName",
    "NoPages", "NoPage", "NoQuestion", "NoEntry", "NoAnswer", "NoDoor", "NoHouse", "NoAsk", "NoLog", "NoLine",
)
ALL = WITH_TEXT + ("TooMany", "NoText")


class TestErrors(unittest.TestCase):
    def test_reach_error_is_straight_under_value_error(self):
        self.assertEqual(errors.ReachError.__bases__, (ValueError,))

    def test_each_is_straight_under_reach_error(self):
        for name in ALL:
            with self.subTest(name):
                self.assertEqual(getattr(errors, name).__bases__, (errors.ReachError,))
                self.assertEqual(getattr(errors, name).__name__, name)

    def test_none_is_under_another_one(self):
        for name in ALL:
            for other in ALL:
                if name != other:
                    with self.subTest(name=name, other=other):
                        self.assertFalse(issubclass(getattr(errors, name), getattr(errors, other)))

    def test_each_is_made_with_a_text(self):
        for name in WITH_TEXT:
            with self.subTest(name):
                with self.assertRaises(errors.ReachError) as caught:
                    raise getattr(errors, name)("a text")
                self.assertIs(type(caught.exception), getattr(errors, name))

    def test_too_many_has_its_fields(self):
        error = errors.TooMany(13, 12)
        self.assertEqual((error.many, error.most), (13, 12))
        error = errors.TooMany(most=400, many=401)
        self.assertEqual((error.many, error.most), (401, 400))

    def test_no_text_has_its_field(self):
        self.assertEqual(errors.NoText(0).row, 0)
        self.assertEqual(errors.NoText(7).row, 7)
        self.assertEqual(errors.NoText(row=3).row, 3)

    def test_fields_belong_to_each_object(self):
        first, second = errors.TooMany(1, 2), errors.TooMany(3, 4)
        self.assertEqual((first.many, first.most, second.many, second.most), (1, 2, 3, 4))
        first, second = errors.NoText(1), errors.NoText(2)
        self.assertEqual((first.row, second.row), (1, 2))

    def test_those_with_fields_can_be_raised_and_shown(self):
        for error in (errors.TooMany(13, 12), errors.NoText(0)):
            with self.subTest(error=repr(error)):
                with self.assertRaises(errors.ReachError):
                    raise error
                self.assertIsInstance(str(error), str)


if __name__ == "__main__":
    unittest.main()

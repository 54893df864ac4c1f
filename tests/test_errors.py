"""The refusals (2)."""

import unittest

from widerows.errors import Early, NoBoxes, NoMove, NoText, TooMany, WideError

WITH_TEXT = (NoText, NoBoxes, NoMove)
WITH_NUMBER = (Early, TooMany)
ALL = WITH_TEXT + WITH_NUMBER


class Errors(unittest.TestCase):
    def test_wide_error_is_a_value_error(self):
        self.assertTrue(issubclass(WideError, ValueError))
        self.assertEqual(str(WideError("why")), "why")

    def test_each_stands_under_wide_error_and_none_of_the_others(self):
        for one in ALL:
            self.assertTrue(issubclass(one, WideError))
            self.assertTrue(issubclass(one, ValueError))
            for other in ALL:
                self.assertEqual(issubclass(one, other), one == other)

    def test_made_with_a_text(self):
        for one in WITH_TEXT:
            self.assertEqual(str(one("no such row")), "no such row")

    def test_made_with_a_number(self):
        for one in WITH_NUMBER:
            for number in (0, 3, 101, 10 ** 39):
                self.assertEqual(one(number).number, number)
                self.assertNotIsInstance(one(number).number, bool)

    def test_raised_and_caught_by_the_upper_class(self):
        for one in WITH_NUMBER:
            with self.assertRaises(WideError) as caught:
                raise one(5)
            self.assertEqual(caught.exception.number, 5)

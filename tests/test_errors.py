"""The refusals: interface section loggather/errors.py."""

import unittest

from loggather.errors import (
    GatherError, NoFit, NoJoin, NoLine, NoMoment, NoPattern, NoRow, NoText, NothingLeft, TooMany)

NINE = [NoFit, NoJoin, NoLine, NoMoment, NoPattern, TooMany, NothingLeft, NoText, NoRow]


class Errors(unittest.TestCase):
    def test_all_are_under_one_class(self):
        self.assertTrue(issubclass(GatherError, ValueError))
        for error in NINE:
            with self.subTest(error=error.__name__):
                self.assertTrue(issubclass(error, GatherError))
                self.assertIsNot(error, GatherError)

    def test_none_is_under_another(self):
        for one in NINE:
            for other in NINE:
                if one is not other:
                    self.assertFalse(issubclass(one, other), (one, other))

    def test_each_is_raised_and_caught(self):
        for error in NINE:
            with self.subTest(error=error.__name__):
                with self.assertRaises(error) as caught:
                    raise error(5) if error is NoMoment else error("no")
                self.assertIs(type(caught.exception), error)
                self.assertIsInstance(str(caught.exception), str)

    def test_no_moment_has_the_last_one(self):
        for last in (0, 5, -5, 10 ** 39, -(10 ** 39)):
            self.assertEqual(NoMoment(last).last, last)

    def test_each_no_moment_has_its_own(self):
        one, other = NoMoment(1), NoMoment(2)
        self.assertEqual((one.last, other.last), (1, 2))

    def test_no_moment_is_made_of_the_last_one(self):
        with self.assertRaises(TypeError):
            NoMoment()


if __name__ == "__main__":
    unittest.main()

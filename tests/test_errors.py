"""Tests of measurehall.errors: point [1] and the interface."""

import unittest

from measurehall import errors

PLAIN = (
    "BadQuestion", "BadSeed", "BadName", "TooMany", "Taken", "NoMachine", "NoTask",
    "BadScore", "NoRun", "NotRanked", "BadShare", "NotAhead", "NoPage",
)
WITH_ROW = ("BadMachine", "BadText")
WITH_NUMBER = ("BadTask", "BadDeed")
ALL = PLAIN + WITH_ROW + WITH_NUMBER


def made(name):
    """An error of that name."""
    error = getattr(errors, name)
    return error("why") if name in PLAIN else error(3)


class Classes(unittest.TestCase):
    def test_hall_error_is_a_value_error(self):
        self.assertTrue(issubclass(errors.HallError, ValueError))
        self.assertIsNot(errors.HallError, ValueError)
        self.assertIsInstance(errors.HallError("why"), ValueError)

    def test_there_are_seventeen_below_it(self):
        self.assertEqual(len(set(ALL)), 17)
        self.assertEqual(len({getattr(errors, name) for name in ALL}), 17)

    def test_each_is_defined_in_the_file_under_its_own_name(self):
        for name in ALL + ("HallError",):
            with self.subTest(name):
                error = getattr(errors, name)
                self.assertIsInstance(error, type)
                self.assertEqual(error.__name__, name)
                self.assertEqual(error.__module__, "measurehall.errors")

    def test_each_is_a_hall_error_and_a_value_error(self):
        for name in ALL:
            with self.subTest(name):
                error = getattr(errors, name)
                self.assertIsNot(error, errors.HallError)
                self.assertTrue(issubclass(error, errors.HallError))
                self.assertTrue(issubclass(error, ValueError))

    def test_none_is_under_another_one(self):
        for name in ALL:
            for other in ALL:
                if name != other:
                    with self.subTest(name=name, other=other):
                        self.assertFalse(issubclass(getattr(errors, name), getattr(errors, other)))

    def test_each_is_caught_by_its_name_and_as_hall_error(self):
        for name in ALL:
            for caught in (getattr(errors, name), errors.HallError, ValueError):
                with self.subTest(name=name, caught=caught):
                    with self.assertRaises(caught) as got:
                        raise made(name)
                    self.assertIs(type(got.exception), getattr(errors, name))


class Values(unittest.TestCase):
    def test_row_is_set_when_the_error_is_created(self):
        for name in WITH_ROW:
            for row in (-1, 0, 7, 12):
                with self.subTest(name=name, row=row):
                    self.assertEqual(getattr(errors, name)(row).row, row)

    def test_number_is_set_when_the_error_is_created(self):
        for name in WITH_NUMBER:
            for number in (-1, 0, 5, 16):
                with self.subTest(name=name, number=number):
                    self.assertEqual(getattr(errors, name)(number).number, number)

    def test_each_object_has_a_value_of_its_own(self):
        one, other = errors.BadMachine(2), errors.BadMachine(9)
        self.assertEqual((one.row, other.row), (2, 9))
        one, other = errors.BadDeed(2), errors.BadDeed(9)
        self.assertEqual((one.number, other.number), (2, 9))


if __name__ == "__main__":
    unittest.main()

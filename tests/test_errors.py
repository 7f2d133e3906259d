"""Point 5: the errors."""

import unittest

from lookdepths import errors
from tests.helper import BARE_NAMES, ERROR_NAMES, any_objects

VALUED = [getattr(errors, name) for name in ERROR_NAMES]
BARE = [getattr(errors, name) for name in BARE_NAMES]


class ErrorsTest(unittest.TestCase):
    def test_value_by_position_is_the_very_object(self):
        for error in VALUED:
            for value in any_objects():
                self.assertIs(error(value).value, value)

    def test_value_by_name_is_the_very_object(self):
        for error in VALUED:
            for value in any_objects():
                self.assertIs(error(value=value).value, value)

    def test_value_left_out_is_none(self):
        for error in VALUED:
            self.assertIsNone(error().value)

    def test_value_takes_one_argument_at_most(self):
        for error in VALUED:
            self.assertRaises(TypeError, error, 1, 2)

    def test_each_object_has_its_own_field(self):
        for error in VALUED:
            one, other = error([1]), error([2])
            self.assertEqual([one.value, other.value, error().value], [[1], [2], None])

    def test_the_others_are_made_of_nothing(self):
        for error in [errors.LookError] + BARE:
            self.assertFalse(hasattr(error(), "value"))
            self.assertRaises(TypeError, error, 1)
            self.assertRaises(TypeError, lambda: error(value=1))

    def test_all_derive_from_look_error_alone(self):
        self.assertEqual(errors.LookError.__bases__, (ValueError,))
        for error in VALUED + BARE:
            self.assertEqual(error.__bases__, (errors.LookError,))

    def test_they_are_raised_and_caught_as_look_error_and_value_error(self):
        for error in VALUED + BARE + [errors.LookError]:
            for caught in [error, errors.LookError, ValueError]:
                with self.assertRaises(caught) as seen:
                    raise error()
                self.assertIs(seen.exception.__class__, error)

    def test_no_other_class_stands_there(self):
        names = {name for name, what in vars(errors).items() if isinstance(what, type)}
        self.assertEqual(names, {"LookError", *ERROR_NAMES, *BARE_NAMES})
        self.assertEqual({getattr(errors, name).__module__ for name in names}, {"lookdepths.errors"})


if __name__ == "__main__":
    unittest.main()

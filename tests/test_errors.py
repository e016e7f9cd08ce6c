"""The errors of the interface: what they are, and their fields."""

import unittest

from formatfit.errors import BadFormat, BadValue, BrokenPromise, CannotRead, EndError, FormatfitError, LineError
from formatfit.errors import NoSuchVersion, PowerCut, ShutError, SignError, TooLarge, TooMany

WITH_FIELD = [
    (SignError, "place"),
    (LineError, "line"),
    (BrokenPromise, "version"),
    (NoSuchVersion, "number"),
    (PowerCut, "written"),
]
WITHOUT_FIELD = [EndError, BadValue, BadFormat, TooLarge, CannotRead, TooMany, ShutError]


def all_errors():
    return [kind(3) for kind, _ in WITH_FIELD] + [kind() for kind in WITHOUT_FIELD]


class Errors(unittest.TestCase):
    def test_the_common_error_is_a_value_error(self):
        self.assertTrue(issubclass(FormatfitError, ValueError))

    def test_each_is_a_formatfit_error_and_a_value_error(self):
        for error in all_errors():
            with self.subTest(error=error):
                self.assertIsInstance(error, FormatfitError)
                self.assertIsInstance(error, ValueError)

    def test_none_is_an_instance_of_another_one(self):
        errors = all_errors()
        for error in errors:
            for other in errors:
                with self.subTest(error=error, other=other):
                    self.assertEqual(isinstance(error, type(other)), error is other)

    def test_there_are_twelve_of_them(self):
        self.assertEqual(len({type(error) for error in all_errors()}), 12)

    def test_fields(self):
        for kind, field in WITH_FIELD:
            for number in (0, 1, 17):
                with self.subTest(kind=kind, number=number):
                    self.assertEqual(vars(kind(number)), {field: number})

    def test_fields_of_a_caught_error(self):
        for kind, field in WITH_FIELD:
            with self.subTest(kind=kind):
                try:
                    raise kind(5)
                except FormatfitError as error:
                    self.assertEqual(getattr(error, field), 5)

    def test_fields_can_be_given_by_name(self):
        for kind, field in WITH_FIELD:
            with self.subTest(kind=kind):
                self.assertEqual(getattr(kind(**{field: 8}), field), 8)

    def test_those_without_a_field_have_none(self):
        for kind in WITHOUT_FIELD:
            with self.subTest(kind=kind):
                self.assertEqual(vars(kind()), {})


if __name__ == "__main__":
    unittest.main()

"""The classes of errors: their bases and their fields."""

import unittest

from parley import errors

PLAIN = ("BadArgument", "TooDeep", "BadSystem", "BadFormula", "BadNetwork", "BadAnswer")
WITH_FIELD = (
    ("BadText", "line", 7),
    ("TooLarge", "limit", 2000),
    ("NameTwice", "name", "P"),
    ("UnknownName", "name", "Q"),
    ("Unguarded", "name", "R"),
    ("Growing", "name", "S"),
    ("UnknownModel", "model", "words"),
)


class ErrorsTest(unittest.TestCase):
    def test_base_is_a_value_error(self):
        self.assertEqual(errors.ParleyError.__bases__, (ValueError,))

    def test_each_error_is_directly_below_the_base(self):
        for name in PLAIN + tuple(row[0] for row in WITH_FIELD):
            with self.subTest(name=name):
                self.assertEqual(getattr(errors, name).__bases__, (errors.ParleyError,))
                self.assertEqual(getattr(errors, name).__module__, "parley.errors")

    def test_fields(self):
        for name, field, value in WITH_FIELD:
            with self.subTest(name=name):
                error = getattr(errors, name)(value)
                self.assertEqual(getattr(error, field), value)
                self.assertIsInstance(str(error), str)

    def test_plain_errors_can_be_raised(self):
        for name in PLAIN + ("ParleyError",):
            with self.subTest(name=name), self.assertRaises(errors.ParleyError):
                raise getattr(errors, name)("why")


if __name__ == "__main__":
    unittest.main()

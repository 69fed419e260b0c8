"""The classes of the errors: their bases and their fields."""

import unittest

from reaimed import errors

TREE = {
    "AimError": ValueError,
    "TextError": errors.AimError,
    "BadCharacter": errors.TextError,
    "BadNumber": errors.TextError,
    "Unexpected": errors.TextError,
    "ScopeError": errors.AimError,
    "DoubleName": errors.ScopeError,
    "UnknownName": errors.ScopeError,
    "CodeError": errors.AimError,
    "BadCode": errors.CodeError,
    "BadListing": errors.CodeError,
}


class TestErrors(unittest.TestCase):
    def test_each_class_stands_below_its_base(self):
        for name, base in TREE.items():
            with self.subTest(name):
                self.assertEqual(getattr(errors, name).__bases__, (base,))

    def test_each_class_is_defined_in_the_file(self):
        for name in TREE:
            with self.subTest(name):
                self.assertEqual(getattr(errors, name).__module__, "reaimed.errors")

    def test_all_are_aim_errors_and_value_errors(self):
        for name in TREE:
            with self.subTest(name):
                self.assertTrue(issubclass(getattr(errors, name), errors.AimError))
                self.assertTrue(issubclass(getattr(errors, name), ValueError))

    def test_classes_beside_each_other_do_not_catch_each_other(self):
        apart = ("BadCharacter", "BadNumber", "Unexpected", "DoubleName", "UnknownName", "BadCode", "BadListing")
        for one in apart:
            for other in apart:
                if one != other:
                    self.assertFalse(issubclass(getattr(errors, one), getattr(errors, other)))

    def test_text_errors_have_row_and_column(self):
        for name in ("TextError", "BadCharacter", "BadNumber", "Unexpected"):
            with self.subTest(name):
                error = getattr(errors, name)(3, 14)
                self.assertEqual((error.row, error.column), (3, 14))

    def test_scope_errors_have_a_name(self):
        for name in ("ScopeError", "DoubleName", "UnknownName"):
            with self.subTest(name):
                self.assertEqual(getattr(errors, name)("speed").name, "speed")

    def test_bad_code_has_an_index(self):
        self.assertEqual(errors.BadCode(-1).index, -1)
        self.assertEqual(errors.BadCode(7).index, 7)

    def test_bad_listing_has_a_row(self):
        self.assertEqual(errors.BadListing(5).row, 5)

    def test_a_raised_error_is_caught_by_its_bases(self):
        for base in (errors.BadNumber, errors.TextError, errors.AimError, ValueError):
            with self.subTest(base.__name__):
                with self.assertRaises(base):
                    raise errors.BadNumber(1, 2)


if __name__ == "__main__":
    unittest.main()

"""The refusals: their families, fields and texts."""

import unittest

from leapcart import errors

FAMILIES = {
    "ToldError": ("NoCart", "NoFolk", "NoLeaps"),
    "AskedError": ("TooMany", "NothingLeft"),
}


class Families(unittest.TestCase):
    def test_the_root_is_a_value_error(self):
        self.assertEqual(errors.LeapError.__bases__, (ValueError,))

    def test_each_class_stands_straight_under_its_family(self):
        for family, members in FAMILIES.items():
            above = getattr(errors, family)
            self.assertEqual(above.__bases__, (errors.LeapError,))
            for member in members:
                self.assertEqual(getattr(errors, member).__bases__, (above,), member)

    def test_all_are_defined_in_this_file(self):
        for family, members in FAMILIES.items():
            for name in ("LeapError", family) + members:
                self.assertEqual(getattr(errors, name).__module__, "leapcart.errors")

    def test_a_family_does_not_catch_the_other(self):
        with self.assertRaises(errors.AskedError):
            try:
                raise errors.NothingLeft("nothing")
            except errors.ToldError:
                self.fail("caught by the other family")


class Fields(unittest.TestCase):
    def test_too_many_has_its_field(self):
        self.assertEqual(errors.TooMany(5).most, 5)
        self.assertEqual(errors.TooMany(most=3).most, 3)
        self.assertIsInstance(str(errors.TooMany(5)), str)

    def test_the_others_are_made_of_a_text(self):
        for name in ("NoCart", "NoFolk", "NoLeaps", "NothingLeft", "LeapError", "ToldError", "AskedError"):
            self.assertEqual(str(getattr(errors, name)("why not")), "why not")


if __name__ == "__main__":
    unittest.main()

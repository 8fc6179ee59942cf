"""The errors that the interface lists under lostdesk/errors.py."""

import unittest

from lostdesk import errors

ATTRIBUTES = {
    "InvalidCatalog": ("index",),
    "UnknownFeature": (),
    "InvalidNote": ("feature",),
    "Conflict": ("feature",),
    "InvalidEntry": ("part",),
    "InvalidOffice": ("part", "label"),
    "UnknownLabel": (),
    "InvalidNumber": (),
    "TooMany": (),
    "NotFitting": (),
    "InvalidPrices": ("label",),
    "NotEnough": ("claim", "thing"),
    "InvalidGroup": ("index",),
    "InvalidOrder": ("index",),
    "InvalidTerms": ("part",),
    "InvalidQuestion": ("index",),
    "InvalidAnswer": (),
    "InvalidMatch": (),
    "InvalidOffices": ("index",),
    "InvalidTravel": ("index",),
    "InvalidName": (),
    "UnknownMark": (),
    "InvalidOperation": ("index",),
    "NoOwner": (),
    "InvalidText": ("row", "word"),
    "DecodeError": ("offset",),
    "DaybookError": ("row", "word"),
}


class ErrorsTest(unittest.TestCase):
    def test_base_class_is_a_direct_subclass_of_value_error(self):
        self.assertEqual(errors.DeskError.__bases__, (ValueError,))
        self.assertEqual(errors.DeskError.__module__, "lostdesk.errors")

    def test_every_error_is_a_direct_subclass_of_desk_error(self):
        for name in ATTRIBUTES:
            with self.subTest(name=name):
                error_class = getattr(errors, name)
                self.assertEqual(error_class.__bases__, (errors.DeskError,))
                self.assertEqual(error_class.__module__, "lostdesk.errors")
                self.assertEqual(error_class.__name__, name)

    def test_no_other_errors(self):
        found = [name for name, value in vars(errors).items() if isinstance(value, type)]
        self.assertEqual(sorted(found), sorted(["DeskError", *ATTRIBUTES]))

    def test_attributes_are_set_when_the_error_is_created(self):
        for name, attributes in ATTRIBUTES.items():
            with self.subTest(name=name):
                values = [f"value {place}" for place in range(len(attributes))]
                error = getattr(errors, name)(*values)
                self.assertEqual([getattr(error, attribute) for attribute in attributes], values)

    def test_errors_are_caught_as_desk_errors(self):
        for name, attributes in ATTRIBUTES.items():
            with self.subTest(name=name), self.assertRaises(errors.DeskError):
                raise getattr(errors, name)(*attributes)


if __name__ == "__main__":
    unittest.main()

"""The error classes of the interface."""

import unittest

from patchkept import errors
from patchkept.errors import (
    InvalidDocument, InvalidForm, InvalidText, NameTaken, PatchkeptError, UnknownName, VaultError,
)

PARENTS = {
    PatchkeptError: ValueError,
    InvalidText: PatchkeptError,
    InvalidForm: PatchkeptError,
    VaultError: PatchkeptError,
    UnknownName: VaultError,
    NameTaken: VaultError,
    InvalidDocument: VaultError,
}


class ErrorClasses(unittest.TestCase):
    def test_each_class_derives_from_the_listed_one(self):
        for error, parent in PARENTS.items():
            with self.subTest(error=error.__name__):
                self.assertEqual(error.__bases__, (parent,))

    def test_classes_are_defined_in_the_listed_file(self):
        for error in PARENTS:
            with self.subTest(error=error.__name__):
                self.assertEqual(error.__module__, "patchkept.errors")
                self.assertIs(getattr(errors, error.__name__), error)

    def test_errors_are_caught_by_their_parents_alone(self):
        for error in (UnknownName, NameTaken, InvalidDocument):
            with self.subTest(error=error.__name__):
                with self.assertRaises(VaultError):
                    raise error("a")
                self.assertFalse(issubclass(error, (InvalidText, InvalidForm)))
        self.assertFalse(issubclass(InvalidText, (InvalidForm, VaultError)))
        self.assertFalse(issubclass(InvalidForm, (InvalidText, VaultError)))

    def test_errors_without_an_attribute_can_be_raised_with_or_without_a_message(self):
        for error in (PatchkeptError, InvalidForm, VaultError, UnknownName, NameTaken, InvalidDocument):
            with self.subTest(error=error.__name__):
                self.assertEqual(str(error("told")), "told")
                with self.assertRaises(PatchkeptError):
                    raise error


class InvalidTextIndex(unittest.TestCase):
    def test_the_one_argument_is_the_attribute(self):
        for index in (0, 1, 2, 60, 10 ** 30):
            with self.subTest(index=index):
                error = InvalidText(index)
                self.assertEqual(error.index, index)
                self.assertEqual(error.args, (index,))

    def test_the_attribute_is_there_when_the_error_is_caught(self):
        with self.assertRaises(ValueError) as caught:
            raise InvalidText(2)
        self.assertEqual(caught.exception.index, 2)

    def test_each_object_has_its_own_index(self):
        first, second = InvalidText(1), InvalidText(2)
        self.assertEqual((first.index, second.index), (1, 2))

    def test_the_argument_may_be_passed_by_name(self):
        self.assertEqual(InvalidText(index=4).index, 4)

    def test_it_takes_one_argument(self):
        self.assertRaises(TypeError, InvalidText)
        self.assertRaises(TypeError, InvalidText, 1, 2)


if __name__ == "__main__":
    unittest.main()

"""The error classes of the interface, as far as they stand in lookscan.errors."""

import unittest

from lookscan import errors

ATTRIBUTES = {
    "InvalidPlace": "given", "InvalidBox": "given", "InvalidDivisors": None, "TooManyClasses": "limit",
    "InvalidLooks": "index", "InvalidTree": None, "InvalidMatrix": None, "InvalidWords": "index", "Unlike": None,
    "TooManyCells": "limit", "InvalidRing": None, "TooLong": "limit", "InvalidRule": "index",
    "InvalidValues": "index", "InvalidCount": "given", "InvalidName": "name", "DuplicateName": "name",
    "CapacityExceeded": "limit", "InUse": "name", "InvalidLimit": "limit", "InvalidCommand": "first",
    "ParseError": "line", "NotGiven": "name", "Broken": "name",
}


def made(name, attribute, value):
    return getattr(errors, name)(*([] if attribute is None else [value]))


class ErrorsTest(unittest.TestCase):
    def test_bases(self):
        self.assertEqual(errors.ScanError.__bases__, (ValueError,))
        self.assertEqual(errors.Missing.__bases__, (LookupError,))
        self.assertEqual(errors.NothingLeft.__bases__, (IndexError,))
        self.assertEqual(errors.UnknownName.__bases__, (errors.Missing,))
        for name in ATTRIBUTES:
            self.assertEqual(getattr(errors, name).__bases__, (errors.ScanError,), name)

    def test_each_stands_in_the_file_under_its_name(self):
        for name in [*ATTRIBUTES, "ScanError", "Missing", "UnknownName", "NothingLeft"]:
            found = getattr(errors, name)
            self.assertEqual((found.__name__, found.__module__), (name, "lookscan.errors"))

    def test_tag_and_attributes(self):
        for name, attribute in ATTRIBUTES.items():
            wanted = {"tag": name}
            if attribute is not None:
                wanted[attribute] = (1, "a")
            self.assertEqual(vars(made(name, attribute, (1, "a"))), wanted)
        self.assertEqual(vars(errors.UnknownName("b")), {"tag": "UnknownName", "name": "b"})
        self.assertEqual(vars(errors.NothingLeft()), {"tag": "NothingLeft"})

    def test_the_value_may_be_any(self):
        for value in [None, True, "", (), 10 ** 5000, ((1,),)]:
            error = made("InvalidPlace", "given", value)
            self.assertIs(error.given, value)
            self.assertIsInstance(str(error), str)

    def test_messages(self):
        made_errors = [made(name, attribute, 1) for name, attribute in ATTRIBUTES.items()]
        for error in [*made_errors, errors.UnknownName("b"), errors.NothingLeft()]:
            self.assertRegex(str(error), "^[a-z]")

    def test_base_classes_have_the_tag_of_the_class_too(self):
        self.assertEqual(errors.ScanError("ScanError", "why").tag, "ScanError")
        self.assertEqual(errors.Missing("Missing", "why").tag, "Missing")


if __name__ == "__main__":
    unittest.main()

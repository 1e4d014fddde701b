"""What several tests ask of errors and of scans."""

import unittest


class ScanCase(unittest.TestCase):
    def assert_error(self, error, call, *values, **fields):
        """The call raises this very error class, with its tag and these attributes, also None and True as such."""
        with self.assertRaises(error) as caught:
            call(*values)
        self.assertIs(type(caught.exception), error)
        wanted = {"tag": error.__name__, **fields}
        self.assertEqual(vars(caught.exception), wanted)
        for name, value in fields.items():
            self.assertIs(type(getattr(caught.exception, name)), type(value))

"""The examples at the end of DOC.md, as they stand there."""

import unittest

from lookscan.errors import InvalidTree
from lookscan.scans import Scan
from tests.checks import ScanCase


class ExamplesTest(ScanCase):
    def test_key(self):
        self.assertEqual(
            Scan((2, 1), ('key', (0, 1), (0, 1), ('places',))).order((2, 3)),
            [(0, 0), (0, 1), (1, 0), (0, 2), (1, 1), (1, 2)],
        )

    def test_fork(self):
        self.assertEqual(
            Scan((2,), ('fork', (((1,), ('places',)), ((0,), ('places',))))).order((5,)),
            [(1,), (3,), (0,), (2,), (4,)],
        )

    def test_a_fork_without_a_class(self):
        self.assert_error(InvalidTree, Scan, (2,), ('fork', (((1,), ('places',)),)))


if __name__ == "__main__":
    unittest.main()

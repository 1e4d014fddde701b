"""The examples at the end of DOC.md, as they stand there."""

import unittest

from lookscan.alike import alike_in, parting, unlike, unlike_boxes
from lookscan.console import Console
from lookscan.errors import InvalidTree, ParseError, UnknownName
from lookscan.fills import fill
from lookscan.makers import blocks_scan, keys_scan, rows_scan, snake_scan
from lookscan.rings import is_ring, ring_box
from lookscan.scans import Scan
from lookscan.solving import solve
from lookscan.studio import Studio
from lookscan.tables import Table
from lookscan.tongue import parse_scan
from lookscan.waves import waves
from tests.checks import ScanCase


class ExamplesTest(ScanCase):
    def test_key(self):
        self.assertEqual(
            Scan((2, 1), ('key', (0, 1), (0, 1), ('places',))).order((2, 3)),
            [(0, 0), (0, 1), (1, 0), (0, 2), (1, 1), (1, 2)],
        )

    def test_fork(self):
        self.assertEqual(
            Scan((2,), ('fork', (((1,), ('places',)), ((0,), ('places',))))).order((5,)),
            [(1,), (3,), (0,), (2,), (4,)],
        )

    def test_a_fork_without_a_class(self):
        self.assert_error(InvalidTree, Scan, (2,), ('fork', (((1,), ('places',)),)))

    def test_snake(self):
        self.assertEqual(snake_scan(2).order((2, 3)), [(0, 0), (0, 1), (0, 2), (1, 2), (1, 1), (1, 0)])

    def test_blocks(self):
        self.assertEqual(
            blocks_scan((2, 2)).order((2, 4)),
            [(0, 0), (0, 1), (1, 0), (1, 1), (0, 2), (0, 3), (1, 2), (1, 3)],
        )

    def test_floor_keys(self):
        self.assertEqual(keys_scan(1, ((-1,), 0, 2)).order((5,)), [(3,), (4,), (1,), (2,), (0,)])

    def test_table(self):
        self.assertEqual(Table.of(snake_scan(2), [(0, 1), (-1, 0)]).words(), ['uf', 'ff'])

    def test_unlike(self):
        self.assertEqual(
            [unlike(rows_scan(2), snake_scan(2), [(0, 1)]), unlike_boxes(rows_scan(2), snake_scan(2), [(0, 1)])],
            [[((1, 0), (0, 1))], [(2, 2)]],
        )

    def test_boxes(self):
        self.assertEqual(
            [alike_in(rows_scan(2), snake_scan(2), [(0, 1)], (1, 10 ** 20)),
             parting(rows_scan(2), snake_scan(2), [(0, 1)], (3, 2))],
            [True, ((1, 0), (1, 1))],
        )

    def test_solve(self):
        self.assertEqual(solve(Table((1,), [(1,), (-1,)], ['ff']))[0], 'ring')

    def test_ring(self):
        table = Table((1,), [(1,), (-1,)], ['ff'])
        self.assertEqual(
            [is_ring(table, [(0, (-1,), 1), (0, (1,), 1)]), ring_box(table, [(0, (-1,), 1), (0, (1,), 1)])],
            [True, (2,)],
        )

    def test_waves(self):
        self.assertEqual(waves(Scan((1, 1)), [(-1, 0), (0, -1)], (2, 2)), [[(0, 0)], [(0, 1), (1, 0)], [(1, 1)]])

    def test_fill(self):
        self.assertEqual(fill(Scan((1,)), [(-1,)], (4,), (10, 0, (1,), 1, 0), [5, 5, 5, 5]), [1, 2, 3, 4])

    def test_text(self):
        self.assert_error(ParseError, parse_scan, '1 : place', line=0)

    def test_studio(self):
        studio = Studio()
        studio.apply_all(('scan', 'a', (1, 1), ('places',)), ('turned', 'b', 'a'))
        self.assertEqual(
            [studio.names(), studio.boxes('a', 'b', [(0, 1)]), studio.alike('a', 'b', [(0, 1)], box=(5, 1)), studio.computed],
            [['a', 'b'], [(1, 2)], True, 1],
        )

    def test_unknown_name(self):
        self.assert_error(UnknownName, Studio().apply, ('turned', 'a', 'b'), name='b')

    def test_console(self):
        console = Console()
        self.assertEqual(
            [console('scan a 1 1 : places'), console('waves a : -1 0 : 3 2'), console('names a')],
            ['ok', '3', 'invalid'],
        )


if __name__ == "__main__":
    unittest.main()

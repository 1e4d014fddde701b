"""[6] and the first sentence of [9]: how a scan orders places, and which ones are tied."""

import functools
import itertools
import random
import unittest

from lookscan.errors import InvalidBox, InvalidPlace, TooManyCells
from lookscan.places import cells
from lookscan.scans import Scan
from tests import reference
from tests.checks import ScanCase
from tests.reference import HUGE, PLACES, fork, random_pairs, random_places, random_scans
from tests.test_places import NO_BOXES, NO_PLACES

SNAKE = Scan((2, 1), ("key", (1, 0), (0, 0), fork(PLACES, ("key", (0, -1), (0, 0), PLACES))))


class CallTest(ScanCase):
    def test_places(self):
        scan = Scan((2, 1))
        self.assertIs(scan((0, 5), (1, -5)), True)
        self.assertIs(scan((1, -5), (0, 5)), False)
        self.assertIs(scan((1, 1), (1, 2)), True)
        self.assertIs(scan((-HUGE, 0), (-HUGE + 1, 0)), True)

    def test_key(self):
        scan = Scan((2,), ("key", (-1,), (0, 3), PLACES))
        self.assertTrue(scan((0,), (1,)))
        self.assertTrue(scan((2,), (0,)))
        self.assertTrue(scan((4,), (1,)))
        self.assertTrue(scan((1,), (-1,)))
        self.assertTrue(scan((2 * HUGE,), (2 * HUGE + 1,)))
        self.assertTrue(scan((2 * HUGE + 4,), (2 * HUGE + 1,)))

    def test_key_then_places(self):
        scan = Scan((1, 1), ("key", (1, 1), (5,), PLACES))
        self.assertTrue(scan((0, 1), (1, 0)))
        self.assertFalse(scan((1, 0), (0, 1)))
        self.assertTrue(scan((1, 0), (0, 2)))

    def test_fork(self):
        scan = Scan((2,), ("fork", (((1,), PLACES), ((0,), ("key", (-1,), (0, 0), PLACES)))))
        self.assertTrue(scan((HUGE * 2 + 1,), (0,)))
        self.assertTrue(scan((1,), (3,)))
        self.assertTrue(scan((2,), (0,)))
        self.assertTrue(scan((-1,), (1,)))

    def test_a_place_does_not_come_before_itself(self):
        for scan in random_scans(Scan, 1, 26):
            for place in [(0,) * scan.directions, (-HUGE,) * scan.directions]:
                self.assertIs(scan(place, place), False)
                self.assertIs(scan.tied(place, place), True)

    def test_as_the_words_say(self):
        for at, scan in enumerate(random_scans(Scan, 2, 130)):
            for one, other in random_pairs(scan.directions, at, 60):
                self.assertIs(scan(one, other), reference.before(scan, one, other))
                self.assertIs(scan.tied(one, other), reference.tied(scan, one, other))
                self.assertEqual([scan(one, other), scan(other, one), one == other].count(True), 1)

    def test_pairs_moved_by_multiples_of_the_divisors(self):
        source = random.Random(3)
        for at, scan in enumerate(random_scans(Scan, 3, 65)):
            for one, other in random_pairs(scan.directions, at, 20):
                for reach in (2, HUGE, 10 ** 60):
                    factors = random_places(source, scan.directions, reach)
                    move = tuple(factor * divisor for factor, divisor in zip(factors, scan.divisors))
                    far, near = reference.plus(one, move), reference.plus(other, move)
                    self.assertEqual(scan(far, near), scan(one, other))
                    self.assertEqual(scan.tied(far, near), scan.tied(one, other))

    def test_invalid_places(self):
        scan = SNAKE
        for place in NO_PLACES:
            for call in (scan, scan.tied):
                self.assert_error(InvalidPlace, call, place, (0, 0), given=place)
                self.assert_error(InvalidPlace, call, (0, 0), place, given=place)
                self.assert_error(InvalidPlace, call, place, "other", given=place)
                self.assert_error(InvalidPlace, call, place, place, given=place)
            self.assert_error(InvalidPlace, scan.path, place, given=place)

    def test_by_name(self):
        self.assertTrue(SNAKE(other=(1, 0), one=(0, 0)))
        self.assertTrue(SNAKE.tied(other=(0, 1), one=(0, 0)))
        self.assertEqual(SNAKE.path(place=(0, 1)), (0, 0, 0, 1))


class TiedTest(unittest.TestCase):
    def test_tied(self):
        self.assertIs(SNAKE.tied((0, 0), (0, 9)), True)
        self.assertIs(SNAKE.tied((-2, 0), (-2, HUGE)), True)
        self.assertIs(SNAKE.tied((1, 0), (1, 9)), False)
        self.assertIs(SNAKE.tied((0, 0), (2, 0)), False)
        self.assertIs(SNAKE.tied((1, 5), (1, 5)), True)

    def test_all_places_are_tied_by_places(self):
        self.assertIs(Scan((2, 3)).tied((0, 0), (-7, HUGE)), True)

    def test_equal_numbers_in_two_groups_do_not_tie(self):
        scan = Scan((2,), fork(("key", (0,), (0, 0), PLACES), PLACES))
        self.assertIs(scan.tied((0,), (1,)), False)
        self.assertIs(scan.tied((0,), (2,)), True)


class PathTest(unittest.TestCase):
    def test_path(self):
        self.assertEqual(Scan((2, 1)).path((3, -4)), (3, -4))
        self.assertEqual(SNAKE.path((3, -4)), (3, 1, 4, 3, -4))
        self.assertEqual(SNAKE.path((-2, 7)), (-2, 0, -2, 7))
        scan = Scan((3,), ("key", (10,), (1, 2, 3), ("fork", (((1, 2), PLACES), ((0,), ("key", (-1,), (5, 6, 7), PLACES))))))
        self.assertEqual(scan.path((3,)), (31, 1, 2, 3))
        self.assertEqual(scan.path((-1,)), (-7, 0, -1))
        self.assertIs(type(scan.path((0,))), tuple)

    def test_long_numbers(self):
        scan = Scan((1, 1), ("key", (HUGE, -HUGE), (HUGE,), PLACES))
        self.assertEqual(scan.path((HUGE, -1)), (HUGE * HUGE + 2 * HUGE, HUGE, -1))
        again = Scan((1, 1), ("key", scan.path((HUGE, -1))[:2], (0,), PLACES))
        self.assertEqual(again.path((1, 1))[0], HUGE * HUGE + 3 * HUGE)

    def test_paths_order_places(self):
        for at, scan in enumerate(random_scans(Scan, 4, 39)):
            for one, other in random_pairs(scan.directions, at, 20):
                self.assertEqual(scan.path(one) < scan.path(other), reference.before(scan, one, other))
                self.assertEqual(scan.path(one)[-scan.directions:], one)


class OrderTest(ScanCase):
    def test_order(self):
        self.assertEqual(SNAKE.order((2, 3)), [(0, 0), (0, 1), (0, 2), (1, 2), (1, 1), (1, 0)])
        self.assertEqual(Scan((1, 1)).order((2, 2)), [(0, 0), (0, 1), (1, 0), (1, 1)])

    def test_as_the_words_say(self):
        boxes = {1: (9,), 2: (4, 5), 3: (3, 2, 4)}
        for scan in random_scans(Scan, 5, 65):
            box = boxes[scan.directions]
            compare = functools.partial(reference.compare, scan.divisors, scan.tree)
            wanted = sorted(cells(box), key=functools.cmp_to_key(lambda one, other: compare(one, other)[0]))
            self.assertEqual(scan.order(box), wanted)
            for cell in cells(box):
                self.assertEqual(scan.rank(box, cell), wanted.index(cell))

    def test_no_cells(self):
        for box in [(0, 0), (0, 5), (HUGE, 0)]:
            self.assertEqual(SNAKE.order(box), [])

    def test_2000_cells_and_more(self):
        found = SNAKE.order((40, 50))
        self.assertEqual((len(found), found[0], found[-1]), (2000, (0, 0), (39, 0)))
        self.assertEqual(SNAKE.rank((40, 50), (39, 0)), 1999)
        for box in [(1, 2001), (2001, 1), (HUGE, HUGE)]:
            self.assert_error(TooManyCells, SNAKE.order, box, limit=2000)

    def test_invalid_boxes(self):
        for box in [*NO_BOXES, (1,), (0,), (3000,), (1, 1, 1), (3000, 3000, 3000), (0, 0, 0)]:
            self.assert_error(InvalidBox, SNAKE.order, box, given=box)
            self.assert_error(InvalidBox, SNAKE.rank, box, (0, 0), given=box)
            self.assert_error(InvalidBox, SNAKE.rank, box, "no place", given=box)

    def test_the_list_is_new(self):
        found = SNAKE.order((2, 2))
        found.clear()
        self.assertEqual(len(SNAKE.order((2, 2))), 4)

    def test_by_name(self):
        self.assertEqual(SNAKE.order(box=(1, 1)), [(0, 0)])
        self.assertEqual(SNAKE.rank(place=(1, 0), box=(2, 3)), 5)


class RankTest(ScanCase):
    def test_rank(self):
        self.assertEqual([SNAKE.rank((2, 3), cell) for cell in cells((2, 3))], [0, 1, 2, 5, 4, 3])

    def test_places_that_are_no_cells(self):
        for place in [(2, 0), (0, 3), (-1, 0), (0, -1), (HUGE, HUGE)]:
            self.assert_error(InvalidPlace, SNAKE.rank, (2, 3), place, given=place)
        for box in [(0, 0), (0, 5), (HUGE, 0)]:
            self.assert_error(InvalidPlace, SNAKE.rank, box, (0, 0), given=(0, 0))

    def test_invalid_places(self):
        for place in [*NO_PLACES, (False, 1), (0, True)]:
            self.assert_error(InvalidPlace, SNAKE.rank, (2, 3), place, given=place)

    def test_too_many_cells_before_the_place(self):
        for place in ["no place", (0, 0), (-1, -1)]:
            self.assert_error(TooManyCells, SNAKE.rank, (2001, 1), place, limit=2000)


class TotalOrderTest(unittest.TestCase):
    def test_each_scan_is_a_total_order(self):
        for scan in random_scans(Scan, 6, 39):
            near = list(itertools.product((-1, 0, 1), repeat=scan.directions))[:9]
            for one, other, third in itertools.product(near, repeat=3):
                if scan(one, other) and scan(other, third):
                    self.assertTrue(scan(one, third))


if __name__ == "__main__":
    unittest.main()

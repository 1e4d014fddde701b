"""Two scans: unlike entries, least boxes, all boxes and very large ones, against going through all cells."""

import itertools
import random
import unittest

from lookscan.alike import alike_in, always_alike, parting, unlike, unlike_boxes
from lookscan.errors import InvalidBox, InvalidLooks, Unlike
from lookscan.makers import blocks_scan, keys_scan, rows_scan, snake_scan
from lookscan.scans import Scan
from tests import reference
from tests.checks import ScanCase
from tests.reference import PLACES, all_divisors, classes_in_order, common, plus, random_looks, random_scan
from tests.test_places import NO_BOXES
from tests.test_tables import WRONG_LOOKS

FAR = 10 ** 28 + 11
CALLS = [unlike, unlike_boxes, always_alike]
BOX_CALLS = [alike_in, parting]


def entries(one, other, looks):
    """The unlike entries, as [11] says it."""
    found = []
    for rests in classes_in_order(common(one.divisors, other.divisors)):
        for look in looks:
            neighbour = plus(rests, look)
            if reference.before(one, neighbour, rests) != reference.before(other, neighbour, rests):
                found.append((rests, look))
    return found


def first_parting(one, other, looks, box):
    """By all cells of the box: the first one with a neighbour that is ordered differently, and this neighbour."""
    for cell in itertools.product(*[range(side) for side in box]):
        for look in looks:
            neighbour = plus(cell, look)
            if all(0 <= number < side for number, side in zip(neighbour, box)):
                if one(cell, neighbour) != other(cell, neighbour):
                    return cell, neighbour
    return None


def is_as_wide(box, other):
    return all(side >= least for side, least in zip(box, other))


def least_boxes(boxes):
    return sorted(box for box in boxes if not any(is_as_wide(box, other) for other in boxes if other != box))


def random_two(source, divisors, others, reach):
    one, other = random_scan(Scan, source, divisors), random_scan(Scan, source, others)
    return one, other, random_looks(source, len(divisors), source.randint(1, 2 if reach == 1 else 4), reach)


class SmallBoxesTest(ScanCase):
    def assert_boxes(self, one, other, looks, most):
        """Every box with sides up to most is answered as by going through its cells."""
        found = entries(one, other, looks)
        self.assertEqual(unlike(one, other, looks), found)
        self.assertIs(always_alike(one, other, looks), not found)
        least = unlike_boxes(one, other, looks)
        differing = []
        for box in itertools.product(range(most + 1), repeat=one.directions):
            wanted = first_parting(one, other, looks, box)
            self.assertEqual(parting(one, other, looks, box), wanted)
            self.assertIs(alike_in(one, other, looks, box), wanted is None)
            self.assertEqual(any(is_as_wide(box, small) for small in least), wanted is not None)
            if wanted is not None:
                differing.append(box)
        # Within these sides, the least of all differing boxes are the least boxes.
        self.assertEqual([box for box in least if max(box) <= most], least_boxes(differing))

    def test_one_direction(self):
        source = random.Random(61)
        for _ in range(60):
            one, other, looks = random_two(source, (source.randint(1, 4),), (source.randint(1, 4),), 4)
            self.assert_boxes(one, other, looks, 18)

    def test_two_directions(self):
        source = random.Random(62)
        choices = [divisors for divisors in all_divisors(4) if len(divisors) == 2]
        for _ in range(50):
            one, other, looks = random_two(source, source.choice(choices), source.choice(choices), 2)
            self.assert_boxes(one, other, looks, 5)

    def test_three_directions(self):
        source = random.Random(63)
        choices = [divisors for divisors in all_divisors(4) if len(divisors) == 3 and max(divisors) < 3]
        for _ in range(25):
            one, other, looks = random_two(source, source.choice(choices), source.choice(choices), 1)
            self.assert_boxes(one, other, looks, 3)

    def test_more_than_12_classes(self):
        source = random.Random(64)
        for divisors, others in [((11,), (12,)), ((5,), (4,)), ((7,), (9,)), ((12,), (8,))]:
            one, other, looks = random_two(source, divisors, others, 9)
            self.assert_boxes(one, other, looks[:2], common(divisors, others)[0] + 10)
        for divisors, others in [((4, 3), (3, 4)), ((12, 1), (1, 11)), ((2, 2, 3), (3, 1, 2)), ((2, 3, 2), (5, 2, 1))]:
            differing = 0
            for _ in range(4):
                one, other, looks = random_two(source, divisors, others, 9)
                self.assertEqual(unlike(one, other, looks), entries(one, other, looks))
                differing += len(unlike(one, other, looks))
                box = tuple(source.randint(9, 14) for _ in divisors)
                self.assertEqual(parting(one, other, looks, box), first_parting(one, other, looks, box))
            self.assertGreater(differing, 0)

    def test_exceptions_at_one_class_each(self):
        first = Scan((11,), ("key", (1,), (0,) * 10 + (2,), PLACES))
        second = Scan((12,), ("key", (1,), (0,) * 11 + (2,), PLACES))
        for looks in [[(1,)], [(-1,)], [(1,), (-1,)], [(2,)], [(1,), (2,), (-5,)]]:
            self.assert_boxes(first, second, looks, 136)

    def test_equal_orders(self):
        source = random.Random(65)
        for _ in range(20):
            scan = random_scan(Scan, source, source.choice(all_divisors(4)))
            looks = random_looks(source, scan.directions, 3, 4)
            finer = scan.refined((scan.divisors[0] * 3, *scan.divisors[1:]))
            self.assertEqual(unlike(scan, finer, looks), [])
            self.assertEqual(unlike_boxes(scan, finer, looks), [])
            self.assertIs(always_alike(scan, finer, looks), True)
            box = (FAR,) * scan.directions
            self.assertIs(alike_in(scan, finer, looks, box), True)
            self.assertIsNone(parting(scan, finer, looks, box))

    def test_only_the_looks_count(self):
        one, other = rows_scan(2), keys_scan(2, ((0, 1), 0, 1))
        self.assertIs(one((0, 1), (1, 0)), not other((0, 1), (1, 0)))
        self.assertIs(always_alike(one, other, [(1, 0), (0, 1), (1, 1)]), True)
        self.assertIs(always_alike(one, other, [(1, 0), (1, -1)]), False)


class LeastBoxesTest(ScanCase):
    def test_sides_by_the_rests_and_the_look(self):
        # The odd places are turned: the first place with the rest 1 to which -4 can be added is 5.
        odd = Scan((2, 1), reference.fork(PLACES, ("key", (-1, -1), (0, 0), PLACES)))
        rows = Scan((1, 1), PLACES)
        self.assertEqual(unlike_boxes(rows, odd, [(-4, 0)]), [(6, 1)])
        self.assertEqual(unlike_boxes(rows, odd, [(4, 0)]), [(6, 1)])
        self.assertEqual(unlike_boxes(rows, odd, [(0, 3)]), [(2, 4)])
        self.assertEqual(unlike_boxes(rows, odd, [(-2, 0), (0, -5)]), [(2, 6), (4, 1)])
        self.assertEqual(unlike_boxes(rows, odd, [(0, -5), (0, 2)]), [(2, 3)])

    def test_ascending_and_not_wider_than_one_another(self):
        one, other = rows_scan(2), rows_scan(2).turned()
        looks = [(5, 1), (1, 5), (3, 3), (2, -4)]
        self.assertEqual(unlike_boxes(one, other, looks), [(2, 6), (3, 5), (4, 4), (6, 2)])
        self.assertEqual(unlike_boxes(one, other, looks + [])[0], (2, 6))
        self.assertEqual(unlike_boxes(one, other, [(5, 1), (5, 3), (-5, -1), (9, 9)]), [(6, 2)])

    def test_new_lists(self):
        one, other, looks = rows_scan(1), rows_scan(1).turned(), [(1,)]
        unlike(one, other, looks).clear()
        unlike_boxes(one, other, looks).clear()
        self.assertEqual(unlike(one, other, looks), [((0,), (1,))])
        self.assertEqual(unlike_boxes(one, other, looks), [(2,)])
        self.assertEqual(looks, [(1,)])

    def test_tuples_and_names(self):
        one, other, looks = rows_scan(1), rows_scan(1).turned(), ((1,), (-2,))
        self.assertEqual(unlike(one=one, other=other, looks=looks), [((0,), (1,)), ((0,), (-2,))])
        self.assertEqual(unlike_boxes(one=one, other=other, looks=looks), [(2,)])
        self.assertIs(always_alike(one=one, other=other, looks=looks), False)
        self.assertIs(alike_in(one=one, other=other, looks=looks, box=(1,)), True)
        self.assertEqual(parting(one=one, other=other, looks=looks, box=(2,)), ((0,), (1,)))


class LargeBoxesTest(ScanCase):
    def test_least_boxes_and_one_side_less(self):
        source = random.Random(71)
        seen = 0
        for _ in range(60):
            directions = source.randint(1, 3)
            choices = [divisors for divisors in all_divisors(12) if len(divisors) == directions]
            one, other, looks = random_two(source, source.choice(choices), source.choice(choices), 9)
            least = unlike_boxes(one, other, looks)
            for box in least:
                seen += 1
                self.assertIs(alike_in(one, other, looks, box), False)
                self.assertIsNotNone(parting(one, other, looks, box))
                for at in range(directions):
                    less = box[:at] + (box[at] - 1,) + box[at + 1:]
                    self.assertIs(alike_in(one, other, looks, less), True)
                    self.assertIsNone(parting(one, other, looks, less))
                    large = tuple(FAR for _ in box[:at]) + (box[at],) + tuple(FAR + 3 for _ in box[at + 1:])
                    self.assertIs(alike_in(one, other, looks, large), False)
        self.assertGreater(seen, 60)

    def test_one_short_side(self):
        one, other = rows_scan(2), snake_scan(2)
        for side in (0, 1):
            self.assertIs(alike_in(one, other, [(0, 1)], (side, FAR)), True)
            self.assertIsNone(parting(one, other, [(0, 1)], (side, FAR)))
            self.assertIs(alike_in(one, other, [(0, 1)], (FAR, side)), True)
        self.assertIs(alike_in(one, other, [(0, 1)], (2, FAR)), False)
        self.assertEqual(parting(one, other, [(0, 1)], (FAR, FAR)), ((1, 0), (1, 1)))
        self.assertEqual(parting(one, other, [(0, -1)], (FAR, FAR)), ((1, 1), (1, 0)))

    def test_partings_of_very_large_boxes(self):
        source = random.Random(72)
        for _ in range(40):
            one, other, looks = random_two(source, (2, 2), (3, 1), 3)
            # No cell is needed that lies beyond the common divisors and the looks.
            wanted = first_parting(one, other, looks, (14, 14))
            self.assertEqual(parting(one, other, looks, (FAR, FAR)), wanted)
            self.assertIs(alike_in(one, other, looks, (FAR, FAR)), wanted is None)

    def test_the_order_of_the_looks(self):
        one, other = rows_scan(1), rows_scan(1).turned()
        self.assertEqual(parting(one, other, [(2,), (1,)], (FAR,)), ((0,), (2,)))
        self.assertEqual(parting(one, other, [(1,), (2,)], (FAR,)), ((0,), (1,)))
        self.assertEqual(parting(one, other, [(2,), (1,)], (2,)), ((0,), (1,)))
        self.assertEqual(parting(one, other, [(-1,), (3,)], (FAR,)), ((0,), (3,)))
        self.assertEqual(parting(one, other, [(-1,), (3,)], (3,)), ((1,), (0,)))

    def test_boxes_without_cells(self):
        one, other = rows_scan(2), rows_scan(2).turned()
        for box in [(0, 0), (0, 5), (5, 0), (0, FAR), (FAR, 0)]:
            self.assertIs(alike_in(one, other, [(1, 0), (0, 1)], box), True)
            self.assertIsNone(parting(one, other, [(1, 0), (0, 1)], box))


class ErrorsTest(ScanCase):
    def test_unlike(self):
        for call in CALLS:
            self.assert_error(Unlike, call, Scan((1,)), Scan((1, 1)), [(1,)])
            self.assert_error(Unlike, call, Scan((2, 1, 1)), Scan((1, 1)), None)
        for call in BOX_CALLS:
            self.assert_error(Unlike, call, Scan((1,)), Scan((1, 1)), [(1,)], (3,))
            self.assert_error(Unlike, call, Scan((2, 1, 1)), Scan((1, 1)), [], None)

    def test_invalid_looks(self):
        one, other = blocks_scan((2, 2)), rows_scan(2)
        for looks, index in WRONG_LOOKS:
            for call in CALLS:
                self.assert_error(InvalidLooks, call, one, other, looks, index=index)
            for call in BOX_CALLS:
                self.assert_error(InvalidLooks, call, one, other, looks, (3, 3), index=index)
                self.assert_error(InvalidLooks, call, one, other, looks, (-3, 3), index=index)

    def test_invalid_boxes(self):
        for other in [rows_scan(2), blocks_scan((2, 2))]:
            for call in BOX_CALLS:
                for box in [*NO_BOXES, (1,), (1, 1, 1), (0,), (2, "2"), (None, 3)]:
                    self.assert_error(InvalidBox, call, blocks_scan((2, 2)), other, [(1, 0)], box, given=box)


if __name__ == "__main__":
    unittest.main()

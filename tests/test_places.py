"""[3] and [4]: boxes and their cells, divisors and their classes."""

import itertools
import unittest

from lookscan import places
from lookscan.errors import InvalidBox, InvalidDivisors, InvalidPlace, TooManyCells, TooManyClasses
from lookscan.places import cells, class_count, class_of, rests_of
from tests.checks import ScanCase
from tests.reference import HUGE, NOT_TUPLES, classes_in_order

NO_BOXES = [*NOT_TUPLES, (), (1, 1, 1, 1), (-1,), (2, -1), (0, -1), (True,), (2, False), ("2",), (None,), ((2,),),
            (1, 1, 1, 5000), (3000, -1), (3000, True)]
NO_DIVISORS = [*NOT_TUPLES, (), (1, 1, 1, 1), (0,), (2, 0), (-1,), (100, 0), (True,), (1, True), ("2",), (None, 1),
               ((1,),), (5, 5, 5, 5), (-4, -4)]
TOO_MANY = [(13,), (4, 4), (1, 13), (3, 3, 2), (2, 2, 4), (HUGE,), (HUGE, 1, HUGE)]
NO_PLACES = [*NOT_TUPLES, (), (1,), (1, 2, 3), (True, 1), (1, False), ("1", 1), (None, 1), ((1,), 1), "ab"]
VALID = [(1,), (2,), (12,), (1, 1), (2, 3), (3, 4), (1, 12), (1, 1, 1), (2, 2, 3), (2, 3, 2), (12, 1, 1)]


class ConstantsTest(unittest.TestCase):
    def test_constants(self):
        self.assertEqual(places.MAX_DIRECTIONS, 3)
        self.assertEqual(places.MAX_CLASSES, 12)
        self.assertEqual(places.MAX_CELLS, 2000)


class CellsTest(ScanCase):
    def test_cells_are_ascending(self):
        self.assertEqual(list(cells((3,))), [(0,), (1,), (2,)])
        self.assertEqual(list(cells((2, 2))), [(0, 0), (0, 1), (1, 0), (1, 1)])
        for box in [(1,), (7,), (1, 1), (3, 5), (5, 3), (1, 1, 1), (2, 3, 4), (4, 1, 2)]:
            found = list(cells(box))
            self.assertEqual(found, sorted(itertools.product(*[range(side) for side in box])))
            self.assertTrue(all(type(cell) is tuple for cell in found))

    def test_no_cells(self):
        for box in [(0,), (0, 0), (0, HUGE), (HUGE, 0), (3, 0, 3), (HUGE, HUGE, 0), (10 ** 60, 0)]:
            self.assertEqual(list(cells(box)), [])

    def test_2000_cells_and_more(self):
        for box in [(2000,), (1, 2000), (40, 50), (10, 10, 20)]:
            self.assertEqual(len(list(cells(box))), 2000)
        for box in [(2001,), (1, 2001), (45, 45), (10, 10, 21), (HUGE,), (HUGE, 1, 1), (10 ** 60,)]:
            self.assert_error(TooManyCells, lambda: list(cells(box)), limit=2000)

    def test_invalid_boxes(self):
        for box in NO_BOXES:
            self.assert_error(InvalidBox, lambda: list(cells(box)), given=box)

    def test_errors_come_with_the_first_cell(self):
        invalid = cells("no box")
        great = cells((2001,))
        self.assert_error(InvalidBox, next, invalid, given="no box")
        self.assert_error(TooManyCells, next, great, limit=2000)
        self.assertIs(iter(great), great)

    def test_by_name(self):
        self.assertEqual(list(cells(box=(1, 2))), [(0, 0), (0, 1)])

    def test_two_generators_are_independent(self):
        one, other = cells((2,)), cells((2,))
        self.assertEqual([next(one), next(other), next(one), next(other)], [(0,), (0,), (1,), (1,)])


class ClassesTest(ScanCase):
    def test_class_count(self):
        self.assertEqual([class_count(divisors) for divisors in VALID], [1, 2, 12, 1, 6, 12, 12, 1, 12, 12, 12])

    def test_classes_are_numbered_in_the_order_of_their_rests(self):
        for divisors in VALID:
            rests = [rests_of(divisors, number) for number in range(class_count(divisors))]
            self.assertEqual(rests, classes_in_order(divisors))
            self.assertEqual([class_of(divisors, place) for place in rests], list(range(len(rests))))

    def test_class_of_negative_and_far_places(self):
        self.assertEqual(class_of((2, 3), (-1, -1)), 5)
        self.assertEqual(class_of((3,), (-4,)), 2)
        self.assertEqual(class_of((4, 3), (-10 ** 30 + 1, 10 ** 30 - 2)), 1 * 3 + 2)
        for divisors in VALID:
            for number, rests in enumerate(classes_in_order(divisors)):
                for factor in (-3, -1, 1, HUGE, -HUGE, 10 ** 60):
                    place = tuple(rest + factor * divisor for rest, divisor in zip(rests, divisors))
                    self.assertEqual(class_of(divisors, place), number)

    def test_invalid_divisors_first_of_all(self):
        for divisors in NO_DIVISORS:
            self.assert_error(InvalidDivisors, class_count, divisors)
            for value in [(0, 0), "no place", None, -1, 0, True, 99]:
                self.assert_error(InvalidDivisors, class_of, divisors, value)
                self.assert_error(InvalidDivisors, rests_of, divisors, value)

    def test_too_many_classes_before_the_place_and_the_number(self):
        for divisors in TOO_MANY:
            self.assert_error(TooManyClasses, class_count, divisors, limit=12)
            for value in [(0, 0), "no place", None, -1, 0, True, 10 ** 40]:
                self.assert_error(TooManyClasses, class_of, divisors, value, limit=12)
                self.assert_error(TooManyClasses, rests_of, divisors, value, limit=12)

    def test_invalid_places(self):
        for place in NO_PLACES:
            self.assert_error(InvalidPlace, class_of, (2, 1), place, given=place)
        self.assert_error(InvalidPlace, class_of, (2,), (1, 1), given=(1, 1))
        self.assert_error(InvalidPlace, class_of, (2, 1, 1), (1, 1), given=(1, 1))

    def test_invalid_numbers_of_classes(self):
        for number in [-1, 6, 7, HUGE, -HUGE, True, False, None, "1", (), (1,), (0, 0)]:
            self.assert_error(InvalidPlace, rests_of, (2, 3), number, given=number)

    def test_by_name(self):
        self.assertEqual(class_count(divisors=(2, 3)), 6)
        self.assertEqual(class_of(place=(1, 2), divisors=(2, 3)), 5)
        self.assertEqual(rests_of(number=4, divisors=(2, 3)), (1, 1))


if __name__ == "__main__":
    unittest.main()

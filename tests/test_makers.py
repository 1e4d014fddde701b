"""The makers of scans: which place comes first, which places are tied, divisors, nodes and errors."""

import itertools
import math
import random
import unittest

from lookscan.errors import InvalidBox, InvalidCount, InvalidDivisors, InvalidTree, TooManyClasses, Unlike
from lookscan.makers import blocks_scan, forked_scan, keys_scan, rows_scan, snake_scan
from lookscan.scans import Scan
from tests import reference
from tests.checks import ScanCase
from tests.reference import HUGE, PLACES, all_divisors, chain_shape, class_number, common, count_classes, keys
from tests.reference import random_pairs, random_scan, shape
from tests.test_places import NO_DIVISORS, TOO_MANY

NO_COUNTS = [True, False, None, "", "2", 0, 4, -1, 10 ** 29, (), (1,), (2, 2)]
NO_SIDES = [None, True, 2, "2", "", (), (0,), (2, 0), (-1, 2), (True,), (2, True), (1, 1, 1, 1), (2, "2"), ((2,),),
            (None, 1), (13, 0), (5, 5, 5, 5), (100, True)]


class MakerCase(ScanCase):
    def assert_order(self, scan, key, tied, count=240, seed=1):
        """The scan compares by the key, a tuple for each place, and ties the pairs that tied says."""
        for one, other in random_pairs(scan.directions, seed, count):
            self.assertIs(scan(one, other), key(one) < key(other), (scan.tree, one, other))
            self.assertIs(scan.tied(one, other), tied(one, other), (scan.tree, one, other))


class RowsTest(MakerCase):
    def test_rows(self):
        for directions in (1, 2, 3):
            scan = rows_scan(directions)
            self.assertEqual(scan, Scan((1,) * directions, PLACES))
            self.assert_order(scan, lambda place: place, lambda one, other: True)

    def test_invalid_counts(self):
        for given in NO_COUNTS:
            self.assert_error(InvalidCount, rows_scan, given, given=given)

    def test_by_name(self):
        self.assertEqual(rows_scan(directions=2), Scan((1, 1)))


class SnakeTest(MakerCase):
    @staticmethod
    def key(place):
        odd = sum(place[:-1]) % 2 == 1
        return place[:-1] + ((-place[-1]) if odd else place[-1],)

    @staticmethod
    def tied(one, other):
        return one == other or (one[:-1] == other[:-1] and sum(one[:-1]) % 2 == 0)

    def test_order_and_ties(self):
        for directions in (1, 2, 3):
            self.assert_order(snake_scan(directions), self.key, self.tied)

    def test_one_line(self):
        lines = {1: [()], 2: [(0,), (1,), (-1,), (-2,), (HUGE,), (-HUGE,)],
                 3: [(0, 0), (0, 1), (1, 0), (1, 1), (-1, 0), (-1, 1), (HUGE, 0), (HUGE, 1), (-3, -HUGE)]}
        for directions, starts in lines.items():
            scan = snake_scan(directions)
            for start in starts:
                odd = sum(start) % 2 == 1
                for one, other in itertools.product([-HUGE, -2, -1, 0, 1, 5, HUGE], repeat=2):
                    first, second = start + (one,), start + (other,)
                    self.assertIs(scan(first, second), one > other if odd else one < other)
                    self.assertIs(scan.tied(first, second), one == other or not odd)

    def test_order_in_boxes(self):
        self.assertEqual(snake_scan(2).order((3, 2)), [(0, 0), (0, 1), (1, 1), (1, 0), (2, 0), (2, 1)])
        self.assertEqual(
            snake_scan(3).order((2, 2, 2)),
            [(0, 0, 0), (0, 0, 1), (0, 1, 1), (0, 1, 0), (1, 0, 1), (1, 0, 0), (1, 1, 0), (1, 1, 1)],
        )
        self.assertEqual(snake_scan(1).order((4,)), rows_scan(1).order((4,)))

    def test_invalid_counts(self):
        for given in NO_COUNTS:
            self.assert_error(InvalidCount, snake_scan, given, given=given)

    def test_by_name(self):
        self.assertEqual(snake_scan(directions=3), snake_scan(3))


def floors(floor_keys, place):
    """The numbers of [7], its last sentence."""
    return tuple((sum(a * b for a, b in zip(row, place)) + offset) // divisor for row, offset, divisor in floor_keys)


def least_divisors(directions, floor_keys):
    """The least step in each direction that changes no rest of a sum of products."""
    found = []
    for at in range(directions):
        step = 1
        while any(row[at] * step % divisor for row, offset, divisor in floor_keys):
            step += 1
        found.append(step)
    return tuple(found)


def random_floor_key(source, directions):
    row = tuple(source.randint(-3, 3) for _ in range(directions))
    return row, source.randint(-7, 7), source.choice([1, 1, 2, 2, 3, 4, 6])


class KeysTest(MakerCase):
    def assert_keys(self, directions, floor_keys):
        scan = keys_scan(directions, *floor_keys)
        self.assertEqual(scan.divisors, least_divisors(directions, floor_keys))
        self.assertEqual(scan.nodes, len(floor_keys) + 1)
        self.assertEqual(shape(scan.tree), chain_shape(len(floor_keys)))
        self.assert_order(
            scan,
            lambda place: (floors(floor_keys, place), place),
            lambda one, other: floors(floor_keys, one) == floors(floor_keys, other),
            count=36,
        )

    def test_none_to_five_keys(self):
        source = random.Random(5)
        made, refused = 0, 0
        for at in range(420):
            directions = at % 3 + 1
            floor_keys = [random_floor_key(source, directions) for _ in range(at % 6)]
            if math.prod(least_divisors(directions, floor_keys)) <= 12:
                self.assert_keys(directions, floor_keys)
                made += 1
            else:
                self.assert_error(TooManyClasses, keys_scan, directions, *floor_keys, limit=12)
                refused += 1
        self.assertGreater(made, 150)
        self.assertGreater(refused, 30)

    def test_neighbours_of_a_line(self):
        for row, offset, divisor in itertools.product([-3, -2, -1, 1, 2, 3], [-7, -1, 0, 1, 5], [1, 2, 3, 5, 12]):
            floor_key = ((row,), offset, divisor)
            scan = keys_scan(1, floor_key)
            for near in [0, -9, HUGE, -HUGE]:
                for one, other in itertools.combinations(range(near, near + 9), 2):
                    alike = floors([floor_key], (one,)) == floors([floor_key], (other,))
                    self.assertIs(scan.tied((one,), (other,)), alike)
                    first = (floors([floor_key], (one,)), one) < (floors([floor_key], (other,)), other)
                    self.assertIs(scan((one,), (other,)), first)

    def test_no_keys(self):
        for directions in (1, 2, 3):
            self.assertEqual(keys_scan(directions), rows_scan(directions))

    def test_least_divisors(self):
        self.assertEqual(keys_scan(2, ((1, 0), 0, 12)).divisors, (12, 1))
        self.assertEqual(keys_scan(2, ((0, -5), 3, 12)).divisors, (1, 12))
        self.assertEqual(keys_scan(2, ((2, 3), 0, 6)).divisors, (3, 2))
        self.assertEqual(keys_scan(2, ((6, 0), 5, 6)).divisors, (1, 1))
        self.assertEqual(keys_scan(1, ((1,), 0, 4), ((1,), 0, 6)).divisors, (12,))
        self.assertEqual(keys_scan(1, ((2,), 1, 4), ((3,), 0, 6)).divisors, (2,))
        self.assertEqual(keys_scan(3, ((2, 0, 3), 0, 6), ((0, 1, 0), 9, 2)).divisors, (3, 2, 2))

    def test_long_numbers(self):
        divisor = 10 ** 29
        self.assert_keys_far(((divisor, 3 * divisor), 10 ** 28, divisor))
        self.assert_keys_far(((divisor // 2, -divisor // 5), -10 ** 29 + 1, divisor))

    def assert_keys_far(self, floor_key):
        scan = keys_scan(2, floor_key)
        self.assert_order(
            scan,
            lambda place: (floors([floor_key], place), place),
            lambda one, other: floors([floor_key], one) == floors([floor_key], other),
        )

    def test_19_and_20_keys(self):
        floor_key = ((1, 1), 0, 2)
        self.assertEqual(keys_scan(2, *[floor_key] * 19).nodes, 20)
        self.assertEqual(keys_scan(2, *[floor_key] * 19).divisors, (2, 2))
        for count in (20, 21, 300):
            self.assert_error(InvalidTree, keys_scan, 2, *[floor_key] * count)

    def test_wrong_keys(self):
        good = ((1, 1), 0, 2)
        wrong = [None, True, 5, "key", (), ((1, 1), 0), ((1, 1), 0, 2, 1), ((1,), 0, 2), ((1, 1, 1), 0, 2),
                 ((1, True), 0, 2), ((1, "1"), 0, 2), (None, 0, 2), (5, 0, 2), ("ab", 0, 2), ((), 0, 2),
                 ((1, 1), None, 2), ((1, 1), True, 2), ((1, 1), "0", 2), ((1, 1), (0,), 2), ((1, 1), 0, 0),
                 ((1, 1), 0, -1), ((1, 1), 0, True), ((1, 1), 0, None), ((1, 1), 0, "2"), ((1, 1), 0, (2,))]
        for key in wrong:
            self.assert_error(InvalidTree, keys_scan, 2, key)
            self.assert_error(InvalidTree, keys_scan, 2, good, key)
            self.assert_error(InvalidTree, keys_scan, 2, key, ((1, 1), 0, 13))
            self.assert_error(InvalidTree, keys_scan, 2, *[((1, 1), 0, 13)] * 20, key)

    def test_errors_in_order(self):
        many = ((1,), 0, 13)
        for given in NO_COUNTS:
            self.assert_error(InvalidCount, keys_scan, given, given=given)
            self.assert_error(InvalidCount, keys_scan, given, None, many, given=given)
        self.assert_error(TooManyClasses, keys_scan, 1, many, limit=12)
        self.assert_error(TooManyClasses, keys_scan, 1, *[many] * 20, limit=12)
        self.assert_error(TooManyClasses, keys_scan, 2, ((1, 1), 0, 4), limit=12)
        self.assert_error(TooManyClasses, keys_scan, 1, ((1,), 0, 8), ((1,), 0, 3), limit=12)
        self.assert_error(TooManyClasses, keys_scan, 1, ((7,), 0, 10 ** 29), limit=12)


class BlocksTest(MakerCase):
    def assert_blocks(self, sides, inner, scan):
        def block(place):
            return tuple(number // side for number, side in zip(place, sides))

        for one, other in random_pairs(len(sides), 3, 96):
            if block(one) != block(other):
                self.assertIs(scan(one, other), block(one) < block(other))
                self.assertIs(scan.tied(one, other), False)
            else:
                self.assertIs(scan(one, other), reference.before(inner, one, other))
                self.assertIs(scan.tied(one, other), reference.tied(inner, one, other))

    def test_without_a_scan_inside(self):
        for sides in all_divisors(12):
            if max(sides) <= 4 or len(sides) == 1:
                scan = blocks_scan(sides)
                self.assertEqual(scan.divisors, sides)
                self.assert_blocks(sides, rows_scan(len(sides)), scan)

    def test_within_blocks_near_and_far(self):
        source = random.Random(8)
        for sides in [(4,), (3, 4), (2, 3, 2)]:
            inner = random_scan(Scan, source, sides)
            scan = blocks_scan(sides, inner=inner)
            for far in [0, -1, 7, -10 ** 28, 10 ** 28]:
                start = tuple(side * far for side in sides)
                cells = [tuple(map(sum, zip(start, cell))) for cell in itertools.product(*map(range, sides))]
                for one, other in itertools.product(cells, repeat=2):
                    self.assertIs(scan(one, other), reference.before(inner, one, other))
                    self.assertIs(scan.tied(one, other), reference.tied(inner, one, other))

    def test_with_a_scan_inside(self):
        source = random.Random(9)
        made, refused = 0, 0
        for _ in range(300):
            sides = source.choice([sides for sides in all_divisors(12) if max(sides) <= 4])
            inner = random_scan(Scan, source, source.choice(
                [divisors for divisors in all_divisors(6) if len(divisors) == len(sides)]))
            divisors = common(sides, inner.divisors)
            if math.prod(divisors) > 12:
                self.assert_error(TooManyClasses, lambda: blocks_scan(sides, inner=inner), limit=12)
                refused += 1
            else:
                scan = blocks_scan(sides, inner=inner)
                self.assertEqual(scan.divisors, divisors)
                self.assert_blocks(sides, inner, scan)
                made += 1
        self.assertGreater(made, 100)
        self.assertGreater(refused, 50)

    def test_classes(self):
        self.assertEqual(blocks_scan((3, 4)).divisors, (3, 4))
        self.assertEqual(blocks_scan((2, 1), inner=Scan((3, 2))).divisors, (6, 2))
        self.assertEqual(blocks_scan((4,), inner=Scan((6,))).divisors, (12,))
        self.assert_error(TooManyClasses, lambda: blocks_scan((4,), inner=Scan((5,))), limit=12)
        for sides in [(13,), (4, 4), (3, 3, 2), (10 ** 29,), (10 ** 29, 10 ** 29)]:
            self.assert_error(TooManyClasses, blocks_scan, sides, limit=12)

    def test_errors_in_order(self):
        for sides in NO_SIDES:
            self.assert_error(InvalidBox, blocks_scan, sides, given=sides)
            self.assert_error(InvalidBox, lambda: blocks_scan(sides, inner=Scan((1, 2, 1))), given=sides)
        deep = Scan((5,), keys(19, (5,)))
        self.assert_error(TooManyClasses, lambda: blocks_scan((4, 4), inner=deep), limit=12)
        self.assert_error(Unlike, lambda: blocks_scan((4, 1), inner=deep))
        self.assert_error(TooManyClasses, lambda: blocks_scan((4,), inner=deep), limit=12)
        self.assert_error(InvalidTree, lambda: blocks_scan((2,), inner=deep))
        many = Scan((2,), ("fork", (((0,), keys(9, (2,))), ((1,), keys(9, (2,))))))
        self.assertEqual(blocks_scan((1,), inner=many).nodes, 22)

    def test_by_name(self):
        inner = Scan((2, 1))
        self.assertEqual(blocks_scan(sides=(1, 2), inner=inner), blocks_scan((1, 2), inner=inner))
        self.assertEqual(blocks_scan((1, 2), inner=None), blocks_scan((1, 2)))
        with self.assertRaises(TypeError):
            blocks_scan((1, 2), inner)


class ForkedTest(MakerCase):
    def test_groups_of_scans(self):
        source = random.Random(11)
        for _ in range(150):
            divisors = source.choice(all_divisors(12))
            groups = [(classes, self.inner_scan(source, divisors))
                      for classes in reference.random_groups(source, count_classes(divisors))]
            if sum(reference.count_nodes(scan.tree) for classes, scan in groups) > 199:
                continue
            scan = forked_scan(divisors, *groups)
            self.assertEqual(scan.divisors, divisors)
            self.assertEqual(shape(scan.tree), ("fork", tuple(shape(inner.tree) for classes, inner in groups)))
            self.assert_groups(scan, divisors, groups)

    @staticmethod
    def inner_scan(source, divisors):
        parts = [[part for part in range(1, divisor + 1) if divisor % part == 0] for divisor in divisors]
        return random_scan(Scan, source, tuple(source.choice(choices) for choices in parts), 2)

    def assert_groups(self, scan, divisors, groups):
        def group(place):
            number = class_number(divisors, place)
            return [number in classes for classes, inner in groups].index(True)

        for one, other in random_pairs(len(divisors), 4, 60):
            first, second = group(one), group(other)
            if first != second:
                self.assertIs(scan(one, other), first < second)
                self.assertIs(scan.tied(one, other), False)
            else:
                inner = groups[first][1]
                self.assertIs(scan(one, other), reference.before(inner, one, other))
                self.assertIs(scan.tied(one, other), reference.tied(inner, one, other))

    def test_one_group(self):
        scan = forked_scan((2,), ((0, 1), Scan((1,), keys(18))))
        self.assertEqual(scan.nodes, 20)
        self.assertEqual(scan.tree[0], "fork")

    def test_wrong_groups(self):
        rows = Scan((1,))
        wrong = [[], [((0,), rows)], [((0,), rows), ((0, 1), rows)], [((1, 0), rows)], [((0, 0, 1), rows)],
                 [((0, 1), rows), ((), rows)], [((0, 1, 2), rows)], [((-1, 0, 1), rows)], [((0, True), rows)],
                 [((False, 1), rows)], [((0, "1"), rows)], [((0, None), rows)], [((0,), rows), ((1,), rows), ((1,), rows)]]
        for groups in wrong:
            self.assert_error(InvalidTree, forked_scan, (2,), *groups)
        self.assert_error(InvalidTree, forked_scan, (2,), ((0, 1), Scan((1,), keys(19))))
        great = Scan((12,), reference.fork(*[keys(17, (12,))] * 11, PLACES))
        self.assert_error(InvalidTree, forked_scan, (12,), *[((at,), great) for at in range(12)])

    def test_invalid_divisors(self):
        for divisors in NO_DIVISORS:
            self.assert_error(InvalidDivisors, forked_scan, divisors)
            self.assert_error(InvalidDivisors, forked_scan, divisors, ((0,), Scan((1, 1))))
        for divisors in TOO_MANY:
            self.assert_error(TooManyClasses, forked_scan, divisors, limit=12)
            self.assert_error(TooManyClasses, forked_scan, divisors, ((0,), Scan((7,))), limit=12)

    def test_errors_in_order(self):
        rows, flat, three = Scan((1,)), Scan((1, 1)), Scan((3,))
        self.assert_error(Unlike, forked_scan, (2,), ((0,), flat))
        self.assert_error(Unlike, forked_scan, (2,), ((0, 1), flat))
        self.assert_error(InvalidDivisors, forked_scan, (2,), ((0,), three))
        self.assert_error(InvalidDivisors, forked_scan, (2,), ((0, 1), Scan((4,))))
        self.assert_error(InvalidDivisors, forked_scan, (2, 2), ((0, 1, 2, 3), Scan((2, 3))))
        self.assert_error(InvalidDivisors, forked_scan, (2,), ((0,), three), ((0,), flat))
        self.assert_error(Unlike, forked_scan, (2,), ((0,), flat), ((0,), three))
        self.assert_error(Unlike, forked_scan, (2,), ((5,), rows), ((0,), flat))
        self.assert_error(Unlike, forked_scan, (2,), ((0,), Scan((3, 1))))
        self.assertEqual(forked_scan((6,), ((0, 2, 4), three), ((1, 3, 5), Scan((2,)))).divisors, (6,))


if __name__ == "__main__":
    unittest.main()

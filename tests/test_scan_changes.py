"""[7], with the common divisors of [11]: scans that are made of scans."""

import itertools
import math
import random
import unittest

from lookscan.errors import InvalidDivisors, InvalidMatrix, InvalidPlace, InvalidTree, TooManyClasses, Unlike
from lookscan.scans import Scan
from tests import reference
from tests.checks import ScanCase
from tests.reference import (
    HUGE, NOT_TUPLES, PLACES, chain_shape, fork, keys, plus, product, random_matrix, random_pairs, random_places,
    random_scans, shape,
)
from tests.test_places import NO_DIVISORS, NO_PLACES, TOO_MANY

SNAKE = Scan((2, 1), ("key", (1, 0), (0, 0), fork(PLACES, ("key", (0, -1), (0, 0), PLACES))))


def three_forks(levels):
    tree = PLACES
    for _ in range(levels):
        tree = fork(tree, tree, tree)
    return tree


def count_places(scan):
    return str(scan.tree).count("places")


def turned_nodes(scan):
    """How many nodes there are with a chain of keys before each places."""
    return scan.nodes + scan.directions * count_places(scan)


class ChangeCase(ScanCase):
    def assert_same_order(self, new, old, seed, move=lambda place: place, tied=True):
        """The new scan orders places as the old one orders the moved places."""
        for one, other in random_pairs(new.directions, seed, 24):
            self.assertIs(new(one, other), reference.before(old, move(one), move(other)))
            wanted = reference.tied(old, move(one), move(other)) if tied else one == other
            self.assertIs(new.tied(one, other), wanted)

    def assert_valid(self, scan):
        self.assertEqual(Scan(scan.divisors, scan.tree), scan)
        self.assertEqual(Scan(scan.divisors, scan.tree).nodes, scan.nodes)


class RefinedTest(ChangeCase):
    def test_same_order_nodes_and_ties(self):
        for at, scan in enumerate(random_scans(Scan, 11, 91)):
            for factors in itertools.product((1, 2, 3), repeat=scan.directions):
                divisors = tuple(factor * divisor for factor, divisor in zip(factors, scan.divisors))
                if math.prod(divisors) > 12:
                    continue
                new = scan.refined(divisors)
                self.assert_valid(new)
                self.assertEqual((new.divisors, new.nodes, shape(new.tree)), (divisors, scan.nodes, shape(scan.tree)))
                self.assert_same_order(new, scan, at)

    def test_example(self):
        scan = Scan((2,), ("fork", (((1,), PLACES), ((0,), PLACES))))
        self.assertEqual(scan.refined((4,)).tree, ("fork", (((1, 3), PLACES), ((0, 2), PLACES))))
        self.assertEqual(scan.refined((4,)).order((5,)), scan.order((5,)))
        self.assertEqual(scan.refined(divisors=(2,)), scan)
        self.assertEqual(scan.refined((12,)).divisors, (12,))

    def test_the_scan_stays(self):
        scan = Scan((2,), fork(PLACES, PLACES))
        scan.refined((4,))
        self.assertEqual(scan, Scan((2,), fork(PLACES, PLACES)))

    def test_invalid_divisors(self):
        for divisors in NO_DIVISORS:
            self.assert_error(InvalidDivisors, SNAKE.refined, divisors)

    def test_too_many_classes(self):
        for divisors in TOO_MANY:
            self.assert_error(TooManyClasses, SNAKE.refined, divisors, limit=12)
        self.assert_error(TooManyClasses, SNAKE.refined, (14, 1), limit=12)

    def test_other_directions_and_no_multiples(self):
        for divisors in [(2,), (4,), (2, 1, 1), (1, 1), (3, 1), (1, 2), (5, 2)]:
            self.assert_error(InvalidDivisors, SNAKE.refined, divisors)
        self.assert_error(InvalidDivisors, Scan((4, 3)).refined, (2, 3))
        self.assert_error(InvalidDivisors, Scan((2, 3)).refined, (2, 4))


class TurnedTest(ChangeCase):
    def test_each_two_places_the_other_way(self):
        for at, scan in enumerate(random_scans(Scan, 12, 91)):
            new = scan.turned()
            self.assert_valid(new)
            self.assertEqual(new.divisors, scan.divisors)
            for one, other in random_pairs(scan.directions, at, 24):
                self.assertIs(new(one, other), reference.before(scan, other, one))
                self.assertIs(new.tied(one, other), one == other)

    def test_twice_is_the_first_order(self):
        for at, scan in enumerate(random_scans(Scan, 13, 65)):
            if turned_nodes(scan) + (turned_nodes(scan) - scan.nodes) > 200:
                self.assert_error(InvalidTree, scan.turned().turned)
                continue
            new = scan.turned().turned()
            self.assert_valid(new)
            self.assert_same_order(new, scan, at, tied=False)

    def test_chains_of_keys(self):
        for scan in random_scans(Scan, 14, 65):
            new = scan.turned()
            self.assertEqual(new.nodes, turned_nodes(scan))
            chains = shape(scan.tree, chain_shape(scan.directions))
            self.assertEqual(sorted_shape(shape(new.tree)), sorted_shape(chains))

    def test_examples(self):
        self.assertEqual(Scan((1, 1)).turned().order((2, 2)), [(1, 1), (1, 0), (0, 1), (0, 0)])
        self.assertEqual(SNAKE.turned().order((2, 2)), SNAKE.order((2, 2))[::-1])
        self.assertEqual(Scan((2, 1, 3)).turned().nodes, 4)

    def test_too_deep(self):
        self.assertEqual(Scan((1,), keys(18)).turned().nodes, 20)
        self.assert_error(InvalidTree, Scan((1,), keys(19)).turned)
        for directions in (1, 2, 3):
            divisors = (1,) * directions
            self.assertEqual(Scan(divisors, keys(19 - directions, divisors)).turned().nodes, 20)
            self.assert_error(InvalidTree, Scan(divisors, keys(20 - directions, divisors)).turned)

    def test_too_many_nodes(self):
        scan = Scan((3, 1, 1), three_forks(3))
        self.assertEqual((scan.nodes, scan.turned().nodes), (40, 121))
        self.assert_error(InvalidTree, scan.turned().turned)
        self.assert_error(InvalidTree, Scan((3,), three_forks(4)).turned)
        wide = fork(*[fork(*[PLACES] * 12)] * 7, *[PLACES] * 5)
        nearly = Scan((12,), wide)
        self.assertEqual((nearly.nodes, nearly.turned().nodes), (97, 186))
        longer = wide
        for _ in range(14):
            longer = ("key", (1,), (0,) * 12, longer)
        self.assertEqual(Scan((12,), longer).turned().nodes, 200)
        self.assert_error(InvalidTree, Scan((12,), ("key", (1,), (0,) * 12, longer)).turned)


def sorted_shape(tree):
    """A shape whose groups are in any order: forks may list them the other way round."""
    if tree[0] == "fork":
        return ("fork", tuple(sorted((sorted_shape(inner) for inner in tree[1]), key=repr)))
    if tree[0] == "key":
        return ("key", sorted_shape(tree[1]))
    return tree


class ShiftedTest(ChangeCase):
    def test_order_by_the_shifted_places(self):
        source = random.Random(15)
        for at, scan in enumerate(random_scans(Scan, 15, 91)):
            for reach in (3, HUGE, 10 ** 60):
                place = random_places(source, scan.directions, reach)
                new = scan.shifted(place)
                self.assert_valid(new)
                self.assertEqual((new.divisors, new.nodes), (scan.divisors, scan.nodes))
                self.assertEqual(shape(new.tree), shape(scan.tree))
                self.assert_same_order(new, scan, at, lambda z, place=place: plus(z, place))

    def test_one_after_the_other(self):
        source = random.Random(16)
        for at, scan in enumerate(random_scans(Scan, 16, 39)):
            one = random_places(source, scan.directions, 5)
            other = random_places(source, scan.directions, HUGE)
            new = scan.shifted(one).shifted(other)
            self.assert_same_order(new, scan, at, lambda z, move=plus(one, other): plus(z, move))
            back = new.shifted(tuple(-number for number in plus(one, other)))
            self.assert_same_order(back, scan, at)

    def test_example(self):
        scan = Scan((2,), ("fork", (((1,), PLACES), ((0,), PLACES))))
        self.assertEqual(scan.shifted((1,)).order((5,)), [(0,), (2,), (4,), (1,), (3,)])
        self.assertEqual(scan.shifted(place=(-3,)).order((5,)), [(0,), (2,), (4,), (1,), (3,)])

    def test_a_key_with_heights(self):
        scan = Scan((2,), ("key", (1,), (0, 3), PLACES))
        self.assertEqual(scan.order((5,)), [(0,), (2,), (1,), (4,), (3,)])
        self.assertEqual(scan.shifted((1,)).order((5,)), [(1,), (0,), (3,), (2,), (4,)])

    def test_invalid_places(self):
        for place in NO_PLACES:
            self.assert_error(InvalidPlace, SNAKE.shifted, place, given=place)


def least_product_divisors(divisors, matrix):
    """By trying: the least step in each direction that leaves the class of each product as it is."""
    found = []
    for at in range(len(divisors)):
        for step in itertools.count(1):
            move = tuple(step * (at == to) for to in range(len(divisors)))
            changes = product(matrix, move)
            if all(number % divisor == 0 for number, divisor in zip(changes, divisors)):
                found.append(step)
                break
    return tuple(found)


class SlantedTest(ChangeCase):
    def test_order_by_the_products(self):
        source = random.Random(17)
        slanted = 0
        for at, scan in enumerate(random_scans(Scan, 17, 260)):
            matrix = random_matrix(source, scan.directions)
            divisors = least_product_divisors(scan.divisors, matrix)
            if math.prod(divisors) > 12:
                self.assert_error(TooManyClasses, scan.slanted, matrix, limit=12)
                continue
            if turned_nodes(scan) > 200:
                self.assert_error(InvalidTree, scan.slanted, matrix)
                continue
            new = scan.slanted(matrix)
            slanted += 1
            self.assert_valid(new)
            self.assertEqual(new.divisors, divisors)
            self.assertEqual(shape(new.tree), shape(scan.tree, chain_shape(scan.directions)))
            self.assert_same_order(new, scan, at, lambda z, matrix=matrix: product(matrix, z), tied=False)
        self.assertGreater(slanted, 150)

    def test_examples(self):
        rows = Scan((1, 1))
        self.assertEqual(rows.slanted(((0, 1), (1, 0))).order((2, 2)), [(0, 0), (1, 0), (0, 1), (1, 1)])
        self.assertEqual(rows.slanted(matrix=((1, 1), (0, 1))).order((2, 2)), [(0, 0), (1, 0), (0, 1), (1, 1)])
        self.assertEqual(Scan((2, 1)).slanted(((0, 1), (1, 0))).divisors, (1, 2))
        self.assertEqual(Scan((2, 1)).slanted(((1, 1), (0, 1))).divisors, (2, 2))
        self.assertEqual(Scan((2, 1)).slanted(((1, 2), (0, 1))).divisors, (2, 1))
        self.assertEqual(Scan((4, 1)).slanted(((1, 2), (0, 1))).divisors, (4, 2))
        self.assertEqual(Scan((2, 3)).slanted(((1, 0), (0, -1))).divisors, (2, 3))
        self.assertEqual(Scan((3,)).slanted(((-1,),)).order((3,)), [(2,), (1,), (0,)])
        self.assertEqual(Scan((2, 1)).slanted(((1, HUGE), (0, 1))).divisors, (2, 2))
        self.assertEqual(Scan((2, 1)).slanted(((1, -2 * HUGE), (0, 1))).divisors, (2, 1))

    def test_the_one_that_changes_nothing_has_keys_too(self):
        new = SNAKE.slanted(((1, 0), (0, 1)))
        self.assertEqual((new.divisors, new.nodes), ((2, 1), SNAKE.nodes + 4))
        self.assertIs(new.tied((0, 0), (0, 1)), False)

    def test_three_directions(self):
        scan = Scan((2, 1, 1), ("key", (1, 2, 3), (0, 1), PLACES))
        matrix = ((1, 1, 0), (0, 1, 1), (1, 1, 1))
        new = scan.slanted(matrix)
        self.assertEqual(new.divisors, (2, 2, 1))
        self.assert_same_order(new, scan, 1, lambda z: product(matrix, z), tied=False)

    def test_far_away_numbers(self):
        matrix = ((1, HUGE), (0, -1))
        self.assert_same_order(SNAKE.slanted(matrix), SNAKE, 2, lambda z: product(matrix, z), tied=False)

    def test_invalid_matrices(self):
        row = (1, 0)
        for matrix in [*NOT_TUPLES, (), ((1,),), (row,), (row, (0, 1), (0, 0)), ((1, 0, 0), (0, 1, 0), (0, 0, 1)),
                       (row, (0,)), (row, (0, 1, 0)), ((1,), (0, 1)), (row, None), (row, "01"), (1, row), row,
                       (row, (0, True)), ((True, 0), (0, 1)), ((1, False), (0, 1)), (row, ("0", 1)), (row, (None, 1)),
                       (row, ((0,), 1)), (row, (0, 0)), (row, row), ((0, 0), (0, 0)), (row, (0, 2)), (row, (0, -2)),
                       ((2, 1), (1, 2)), ((2, 0), (0, 2)), ((1, 2), (3, 4)), ((HUGE, 0), (0, 1))]:
            self.assert_error(InvalidMatrix, SNAKE.slanted, matrix)
        for matrix in [((0,),), ((2,),), ((-2,),), (1,), 1, ((True,),), ((1, 0), (0, 1))]:
            self.assert_error(InvalidMatrix, Scan((1,)).slanted, matrix)
        for matrix in [((1, 0, 0), (0, 1, 0), (0, 0, 0)), ((1, 2, 3), (4, 5, 6), (7, 8, 9)), ((1, 0), (0, 1)),
                       ((1, 0, 0), (0, 1, 0), (0, 0, 3)), ((1, 0, 0), (0, 1, 0), (0, 0, True)),
                       ((1, 1, 0), (0, 1, 1), (1, 0, 1)), ((1, 0, 0), (0, 1, 0), (0, 0))]:
            self.assert_error(InvalidMatrix, Scan((1, 1, 1)).slanted, matrix)

    def test_valid_matrices_of_three_directions(self):
        for matrix in itertools.product(itertools.product((-1, 0, 1), repeat=3), repeat=3):
            (a, b, c), (d, e, f), (g, h, i) = matrix
            if abs(a * e * i + b * f * g + c * d * h - c * e * g - b * d * i - a * f * h) == 1:
                self.assertEqual(Scan((1, 1, 1)).slanted(matrix).divisors, (1, 1, 1))
            else:
                self.assert_error(InvalidMatrix, Scan((1, 1, 1)).slanted, matrix)

    def test_errors_in_order(self):
        deep = Scan((4, 1), keys(19, (4, 1)))
        self.assert_error(InvalidMatrix, deep.slanted, ((1, 1), (1, 1)))
        self.assert_error(TooManyClasses, deep.slanted, ((1, 1), (0, 1)), limit=12)
        self.assert_error(TooManyClasses, Scan((4, 1)).slanted, ((1, 1), (0, 1)), limit=12)
        self.assert_error(InvalidTree, deep.slanted, ((1, 0), (0, 1)))
        self.assertEqual(Scan((4, 1), keys(17, (4, 1))).slanted(((1, 0), (0, 1))).nodes, 20)
        self.assert_error(InvalidTree, Scan((4, 1), keys(18, (4, 1))).slanted, ((1, 0), (0, 1)))
        self.assertEqual(Scan((3, 1), three_forks(3)).slanted(((1, 0), (0, 1))).nodes, 94)
        self.assert_error(InvalidTree, Scan((3,), three_forks(4)).slanted, ((1,),))

    def test_12_classes(self):
        self.assertEqual(Scan((3, 1)).slanted(((1, 1), (0, 1))).divisors, (3, 3))
        self.assertEqual(Scan((12, 1)).slanted(((1, 12), (0, 1))).divisors, (12, 1))
        self.assertEqual(Scan((6, 1)).slanted(((1, 3), (0, 1))).divisors, (6, 2))
        self.assert_error(TooManyClasses, Scan((6, 1)).slanted, ((1, 2), (0, 1)), limit=12)


class ThenTest(ChangeCase):
    def test_by_the_first_and_then_by_the_other(self):
        scans = list(random_scans(Scan, 18, 52))
        for at, (one, other) in enumerate(itertools.product(scans, scans[13:39])):
            if one.directions != other.directions:
                self.assert_error(Unlike, one.then, other)
                continue
            divisors = tuple(math.lcm(a, b) for a, b in zip(one.divisors, other.divisors))
            nodes = one.nodes + count_places(one) * (other.nodes - 1)
            if math.prod(divisors) > 12:
                self.assert_error(TooManyClasses, one.then, other, limit=12)
            elif nodes > 200:
                self.assert_error(InvalidTree, one.then, other)
            else:
                new = one.then(other)
                self.assert_valid(new)
                self.assertEqual((new.divisors, new.nodes), (divisors, nodes))
                self.assertEqual(shape(new.tree), shape(one.tree, shape(other.tree)))
                self.assert_then(new, one, other, at)

    def assert_then(self, new, one, other, seed):
        for first, second in random_pairs(new.directions, seed, 12):
            by = other if reference.tied(one, first, second) else one
            self.assertIs(new(first, second), reference.before(by, first, second))
            both = reference.tied(one, first, second) and reference.tied(other, first, second)
            self.assertIs(new.tied(first, second), both)

    def test_example(self):
        columns = Scan((1, 1), ("key", (0, 1), (0,), PLACES))
        pairs = Scan((2, 1), fork(PLACES, PLACES))
        self.assertEqual(pairs.then(columns).order((3, 2)), [(0, 0), (2, 0), (0, 1), (2, 1), (1, 0), (1, 1)])
        self.assertEqual(columns.then(other=pairs).order((3, 2)), [(0, 0), (2, 0), (1, 0), (0, 1), (2, 1), (1, 1)])

    def test_common_divisors(self):
        self.assertEqual(Scan((4, 1)).then(Scan((6, 1))).divisors, (12, 1))
        self.assertEqual(Scan((2, 3)).then(Scan((2, 1))).divisors, (2, 3))
        self.assertEqual(Scan((2, 1, 3)).then(Scan((1, 2, 1))).divisors, (2, 2, 3))

    def test_errors_in_order(self):
        deep = keys(19)
        for one, other in [((4,), (3, 4)), ((5,), (1, 3)), ((1,), (1, 1, 1)), ((12, 1), (5,))]:
            self.assert_error(Unlike, Scan(one).then, Scan(other))
        self.assert_error(Unlike, Scan((1,), deep).then, Scan((1, 1), keys(19, (1, 1))))
        self.assert_error(TooManyClasses, Scan((4,)).then, Scan((5,)), limit=12)
        self.assert_error(TooManyClasses, Scan((3, 2)).then, Scan((2, 3)), limit=12)
        self.assert_error(TooManyClasses, Scan((12,), keys(19, (12,))).then, Scan((8,), keys(19, (8,))), limit=12)
        self.assert_error(InvalidTree, Scan((1,), deep).then, Scan((1,), deep))

    def test_too_deep(self):
        for count in range(1, 20):
            one = Scan((1,), keys(count))
            self.assertEqual(one.then(Scan((1,), keys(19 - count))).nodes, 20)
            self.assert_error(InvalidTree, one.then, Scan((1,), keys(20 - count)))
        self.assertEqual(Scan((1,)).then(Scan((1,), keys(19))).nodes, 20)

    def test_too_many_nodes(self):
        nine = Scan((3,), three_forks(2))
        self.assertEqual((nine.nodes, nine.then(nine).nodes), (13, 121))
        self.assert_error(InvalidTree, nine.then, Scan((3,), three_forks(3)))
        twelve = Scan((12,), fork(*[PLACES] * 12))
        self.assertEqual(twelve.then(twelve).nodes, 157)
        self.assert_error(InvalidTree, twelve.then(twelve).then, Scan((1,), keys(1)))
        ten = ("fork", tuple([((at,), PLACES) for at in range(9)] + [((9, 10, 11), PLACES)]))
        nineteen = keys(18, (12,))
        self.assertEqual(Scan((12,), ten).then(Scan((12,), nineteen)).nodes, 191)
        self.assertEqual(Scan((12,), ("key", (1,), (0,) * 12, ten)).then(Scan((1,), keys(17))).nodes, 182)

    def test_exactly_200_nodes(self):
        one = ("key", (1,), (0,) * 11, fork(*[PLACES] * 11))
        other = Scan((1,), keys(17))
        self.assertEqual(Scan((11,), one).then(other).nodes, 200)
        self.assert_error(InvalidTree, Scan((11,), ("fork", ((tuple(range(11)), one),))).then, Scan((1,), keys(17)))
        self.assert_error(InvalidTree, Scan((11,), ("key", (1,), (0,) * 11, one)).then, Scan((1,), keys(17)))

    def test_with_itself(self):
        self.assert_then(SNAKE.then(SNAKE), SNAKE, SNAKE, 5)

    def test_both_scans_stay(self):
        one, other = Scan((2,), fork(PLACES, PLACES)), Scan((3,), fork(PLACES, PLACES, PLACES))
        one.then(other)
        self.assertEqual((one.divisors, one.tree), ((2,), fork(PLACES, PLACES)))
        self.assertEqual((other.divisors, other.tree), ((3,), fork(PLACES, PLACES, PLACES)))


class OneAfterAnotherTest(ChangeCase):
    def test_several_orders(self):
        place, matrix = (3, -HUGE), ((1, 1), (0, 1))

        def shift(z):
            return plus(z, place)

        def slant(z):
            return product(matrix, z)

        scan = SNAKE
        self.assert_same_order(scan.shifted(place).slanted(matrix), scan, 1, lambda z: shift(slant(z)), tied=False)
        self.assert_same_order(scan.slanted(matrix).shifted(place), scan, 2, lambda z: slant(shift(z)), tied=False)
        self.assert_same_order(scan.refined((4, 1)).shifted(place), scan, 3, shift)
        self.assert_same_order(scan.shifted(place).refined((2, 3)), scan, 4, shift)
        self.assert_same_order(scan.slanted(matrix).slanted(matrix), scan, 5, lambda z: slant(slant(z)), tied=False)
        self.assert_same_order(scan.slanted(matrix).slanted(((1, -1), (0, 1))), scan, 6, tied=False)

    def test_turned_with_the_others(self):
        place, matrix = (-5, 2), ((0, 1), (1, 3))
        made = [SNAKE.turned().shifted(place).slanted(matrix), SNAKE.shifted(place).slanted(matrix).turned(),
                SNAKE.shifted(place).turned().slanted(matrix)]
        for one, other in random_pairs(2, 7, 60):
            wanted = reference.before(SNAKE, plus(product(matrix, other), place), plus(product(matrix, one), place))
            self.assertEqual([scan(one, other) for scan in made], [wanted] * 3)

    def test_then_with_the_others(self):
        columns = Scan((1, 3), ("key", (0, -1), (0, 1, 5), PLACES))
        place = (HUGE, 1)
        one = SNAKE.then(columns).shifted(place)
        other = SNAKE.shifted(place).then(columns.shifted(place))
        self.assertEqual(one.divisors, other.divisors)
        for first, second in random_pairs(2, 8, 60):
            self.assertEqual(one(first, second), other(first, second))
            self.assertEqual(one.tied(first, second), other.tied(first, second))
        turned = SNAKE.then(columns).turned()
        for first, second in random_pairs(2, 9, 60):
            self.assertEqual(turned(first, second), SNAKE.then(columns)(second, first))

    def test_many_shifts_make_long_numbers_that_may_be_passed_again(self):
        scan = Scan((2, 1), ("key", (HUGE, 1), (0, 1), PLACES))
        for _ in range(7):
            scan = scan.shifted((HUGE, -HUGE)).slanted(((1, 0), (HUGE * 2, 1))).refined((2, 1))
        self.assertEqual(Scan(scan.divisors, scan.tree), scan)
        place = scan.path((1, 1))[:2]
        self.assertEqual(Scan((2, 1)).shifted(place).order((1, 2)), [(0, 0), (0, 1)])


if __name__ == "__main__":
    unittest.main()

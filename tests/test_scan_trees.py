"""[5]: which trees there are; and what a scan says of itself."""

import unittest

from lookscan.errors import InvalidDivisors, InvalidTree, TooManyClasses
from lookscan.scans import Scan
from tests.checks import ScanCase
from tests.reference import HUGE, NOT_TUPLES, PLACES, fork, keys
from tests.test_places import NO_DIVISORS, TOO_MANY

KEY = ("key", (1, 0), (0, 0), PLACES)


def key(row=(1, 0), heights=(0, 0), tree=PLACES):
    return ("key", row, heights, tree)


def nested_forks(count):
    tree = PLACES
    for _ in range(count - 1):
        tree = ("fork", (((0,), tree),))
    return tree


def wide_tree(places):
    """Over three classes: a tree with as many places as asked for, and half as many forks."""
    trees = [PLACES] * places
    while len(trees) > 1:
        trees = [fork(*trees[:3])] + trees[3:]
        trees = trees[1:] + trees[:1]
    return trees[0]


class ValidTreesTest(unittest.TestCase):
    def assert_nodes(self, divisors, tree, nodes):
        scan = Scan(divisors, tree)
        self.assertEqual((scan.nodes, scan.tree, scan.divisors), (nodes, tree, divisors))

    def test_places(self):
        for divisors in [(1,), (12,), (2, 2), (1, 1, 1)]:
            self.assert_nodes(divisors, PLACES, 1)

    def test_keys(self):
        self.assert_nodes((1,), ("key", (0,), (0,), PLACES), 2)
        self.assert_nodes((2, 1), key((-1, HUGE), (HUGE, -HUGE), key()), 3)
        self.assert_nodes((1, 2, 1), ("key", (1, 2, 3), (4, 5), PLACES), 2)
        self.assert_nodes((12,), ("key", (1,), tuple(range(12)), PLACES), 2)
        self.assert_nodes((1,), ("key", (10 ** 60,), (-10 ** 60,), PLACES), 2)

    def test_forks(self):
        self.assert_nodes((1,), ("fork", (((0,), PLACES),)), 2)
        self.assert_nodes((2,), ("fork", (((0, 1), PLACES),)), 2)
        self.assert_nodes((2,), ("fork", (((1,), PLACES), ((0,), PLACES))), 3)
        self.assert_nodes((4,), ("fork", (((1, 3), PLACES), ((0,), ("key", (1,), (0,) * 4, PLACES)), ((2,), PLACES))), 5)
        self.assert_nodes((3,), fork(PLACES, fork(PLACES, PLACES, PLACES), PLACES), 7)
        self.assert_nodes((12,), fork(*[PLACES] * 12), 13)

    def test_a_fork_in_a_group_still_has_all_classes(self):
        self.assert_nodes((2,), ("fork", (((0,), fork(PLACES, PLACES)), ((1,), ("fork", (((0, 1), PLACES),))))), 6)


class InvalidTreesTest(ScanCase):
    def assert_invalid(self, tree, divisors=(2, 1)):
        self.assert_error(InvalidTree, Scan, divisors, tree)
        self.assert_error(InvalidTree, Scan, divisors, key(tree=tree))
        self.assert_error(InvalidTree, Scan, divisors, fork(PLACES, tree))
        self.assert_error(InvalidTree, Scan, divisors, fork(tree, key()))

    def test_values_that_are_no_tuples(self):
        for value in NOT_TUPLES:
            self.assert_invalid(value)

    def test_other_tuples(self):
        for value in [(), ("place",), ("places", 1), ("places", PLACES), (PLACES,), (True,), (None,), (1,), ("",),
                      ("Places",), ("key",), ("fork",), ((), ()), (("places",),), ("keys", (1, 0), (0, 0), PLACES),
                      (0, (1, 0), (0, 0), PLACES), ("forks", (((0, 1), PLACES),)), (None, (((0, 1), PLACES),)),
                      ("places", (1, 0), (0, 0), PLACES), ("key", (((0, 1), PLACES),)),
                      ("fork", (1, 0), (0, 0), PLACES), ("places", (((0, 1), PLACES),))]:
            self.assert_invalid(value)

    def test_keys_with_other_numbers_of_items(self):
        for value in [("key", (1, 0), (0, 0)), ("key", (1, 0), PLACES), ("key", (1, 0), (0, 0), PLACES, PLACES)]:
            self.assert_invalid(value)

    def test_rows(self):
        for row in [*NOT_TUPLES, (), (1,), (1, 2, 3), (True, 0), (0, False), ("1", 0), (None, 0), ((1,), 0)]:
            self.assert_invalid(key(row=row))

    def test_heights(self):
        for heights in [*NOT_TUPLES, (), (1,), (1, 2, 3), (True, 0), (0, False), ("1", 0), (None, 0), ((1,), 0)]:
            self.assert_invalid(key(heights=heights))

    def test_trees_of_keys(self):
        for tree in [*NOT_TUPLES, (), ("places", "places"), (PLACES,)]:
            self.assert_invalid(key(tree=tree))

    def test_groups(self):
        for groups in [*NOT_TUPLES, (), (PLACES,), ((),), (((0, 1),),), (((0, 1), PLACES, PLACES),), (None,), (1,),
                       ((PLACES, (0, 1)),), ((0, 1), PLACES), (((0, 1), PLACES), None), ("ab",), (("ab", PLACES),)]:
            self.assert_invalid(("fork", groups))
        self.assert_invalid(("fork", ((0, 1), PLACES)))
        self.assert_invalid(("fork", ((0, 1), PLACES), PLACES))
        self.assert_invalid(("fork", (((0,), PLACES),), (((1,), PLACES),)))

    def test_classes_of_groups(self):
        for classes in [*NOT_TUPLES, (), (0,), (1,), (1, 0), (0, 0), (0, 1, 1), (0, 1, 2), (-1, 0, 1), (0, True),
                        (False, 1), (False, True), ("0", 1), (None, 1), ((0,), 1), ((0, 1),)]:
            self.assert_invalid(("fork", ((classes, PLACES),)))
        for one, other in [((0,), (0,)), ((0, 1), (1,)), ((0, 1), ()), ((), (0, 1)), ((0,), (2,)), ((0,), (True,)),
                           ((1,), (False,)), ((0,), (1, 2)), ((-1,), (0, 1)), ((1,), (1, 0))]:
            self.assert_invalid(("fork", ((one, PLACES), (other, PLACES))))

    def test_trees_of_groups(self):
        for tree in [*NOT_TUPLES, (), (PLACES,), ("key", (1, 0), (0,), PLACES)]:
            self.assert_invalid(("fork", (((0,), PLACES), ((1,), tree))))
            self.assert_invalid(("fork", (((0,), tree), ((1,), PLACES))))

    def test_trees_for_other_directions_or_classes(self):
        self.assert_error(InvalidTree, Scan, (1,), key())
        self.assert_error(InvalidTree, Scan, (2,), key())
        self.assert_error(InvalidTree, Scan, (1, 1), key())
        self.assert_error(InvalidTree, Scan, (2, 2), key())
        self.assert_error(InvalidTree, Scan, (2, 1, 1), key())
        self.assert_error(InvalidTree, Scan, (3,), fork(PLACES, PLACES))
        self.assert_error(InvalidTree, Scan, (1,), fork(PLACES, PLACES))

    def test_deep_values(self):
        value = 1
        for _ in range(30):
            value = (value,)
        self.assert_invalid(value)


class LimitsTest(ScanCase):
    def test_20_nodes_one_inside_of_another(self):
        self.assertEqual(Scan((1,), keys(19)).nodes, 20)
        self.assertEqual(Scan((1,), nested_forks(20)).nodes, 20)
        self.assertEqual(Scan((2, 1), fork(PLACES, keys(18, (2, 1)))).nodes, 21)
        self.assert_error(InvalidTree, Scan, (1,), keys(20))
        self.assert_error(InvalidTree, Scan, (1,), nested_forks(21))
        self.assert_error(InvalidTree, Scan, (2, 1), fork(PLACES, keys(19, (2, 1))))
        self.assert_error(InvalidTree, Scan, (2, 1), fork(keys(19, (2, 1)), PLACES))

    def test_200_nodes(self):
        tree = wide_tree(133)
        self.assertEqual(Scan((3,), tree).nodes, 199)
        heights = (0, 0, 0)
        longer = ("key", (1,), heights, tree)
        self.assertEqual(Scan((3,), longer).nodes, 200)
        self.assert_error(InvalidTree, Scan, (3,), ("key", (1,), heights, longer))
        self.assert_error(InvalidTree, Scan, (3,), wide_tree(135))

    def test_a_tree_whose_parts_occur_very_often(self):
        tree = PLACES
        for _ in range(19):
            tree = fork(tree, tree, tree, tree)
        self.assert_error(InvalidTree, Scan, (4,), tree)

    def test_class_values(self):
        self.assertEqual((Scan.MAX_DEPTH, Scan.MAX_NODES), (20, 200))
        self.assertEqual((Scan((1,)).MAX_DEPTH, Scan((1,)).MAX_NODES), (20, 200))


class ErrorOrderTest(ScanCase):
    def test_divisors_first(self):
        for divisors in NO_DIVISORS:
            for tree in [PLACES, KEY, None, ("place",)]:
                self.assert_error(InvalidDivisors, Scan, divisors, tree)

    def test_classes_before_the_tree(self):
        for divisors in TOO_MANY:
            for tree in [PLACES, KEY, None, ("place",)]:
                self.assert_error(TooManyClasses, Scan, divisors, tree, limit=12)


class PropertiesTest(unittest.TestCase):
    def test_properties(self):
        for divisors in [(2,), (2, 3), (1, 2, 3)]:
            scan = Scan(divisors)
            self.assertEqual(scan.divisors, divisors)
            self.assertEqual(scan.directions, len(divisors))
            self.assertEqual(scan.tree, PLACES)
            self.assertEqual(scan.nodes, 1)

    def test_properties_cannot_be_assigned(self):
        for name in ["divisors", "tree", "directions", "nodes"]:
            with self.assertRaises(AttributeError):
                setattr(Scan((1,)), name, (1,))

    def test_arguments_by_position_and_by_name(self):
        self.assertEqual(Scan(tree=KEY, divisors=(2, 1)), Scan((2, 1), KEY))
        self.assertEqual(Scan(divisors=(2, 1)), Scan((2, 1), PLACES))
        self.assertEqual(Scan((2, 1), tree=KEY).tree, KEY)

    def test_methods_stand_in_the_class_itself(self):
        for name in ["divisors", "tree", "directions", "nodes", "__call__", "tied", "path", "order", "rank", "refined",
                     "turned", "shifted", "slanted", "then", "__eq__", "__repr__", "MAX_DEPTH", "MAX_NODES"]:
            self.assertIn(name, vars(Scan))

    def test_equal(self):
        self.assertTrue(Scan((2, 1), KEY) == Scan((2, 1), key()))
        self.assertTrue(Scan((2,)) == Scan((2,), PLACES))
        self.assertFalse(Scan((2, 1), KEY) != Scan((2, 1), key()))

    def test_not_equal(self):
        scan = Scan((2, 1), KEY)
        others = [Scan((1, 2), KEY), Scan((2, 1)), Scan((2, 1), key(heights=(0, 1))), Scan((2, 1), key(row=(0, 1))),
                  (2, 1), KEY, ((2, 1), KEY), None, 1, "Scan(2 classes, 2 nodes)", True, [scan]]
        for other in others:
            self.assertFalse(scan == other)
            self.assertTrue(scan != other)
        self.assertFalse(Scan((1,)) == Scan((1, 1)))
        self.assertFalse(Scan((1,)) == Scan((2,)))

    def test_equal_orders_of_other_trees_are_not_equal(self):
        self.assertFalse(Scan((1,)) == Scan((1,), ("key", (1,), (0,), PLACES)))

    def test_repr(self):
        self.assertEqual(repr(Scan((1,))), "Scan(1 classes, 1 nodes)")
        self.assertEqual(repr(Scan((2, 1), fork(PLACES, KEY))), "Scan(2 classes, 4 nodes)")
        self.assertEqual(repr(Scan((2, 2, 3), keys(19, (2, 2, 3)))), "Scan(12 classes, 20 nodes)")


if __name__ == "__main__":
    unittest.main()

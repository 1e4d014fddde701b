"""Tables: what scans see, words and looks, refined and joined tables, clashes."""

import itertools
import math
import random
import unittest

from lookscan.errors import InvalidDivisors, InvalidLooks, InvalidPlace, InvalidWords, TooManyClasses, Unlike
from lookscan.makers import blocks_scan, rows_scan, snake_scan
from lookscan.scans import Scan
from lookscan.tables import Table
from tests import reference
from tests.checks import ScanCase
from tests.reference import HUGE, all_divisors, class_number, classes_in_order, minus, plus
from tests.reference import random_looks, random_places, random_scan, random_words, seen_words
from tests.test_places import NO_DIVISORS, NO_PLACES, TOO_MANY

NO_LOOK = [None, True, False, 0, 1, "f", "", (), (1,), (1, 0, 0), (0, 0), (10, 0), (0, -10), (HUGE, 1), (True, 0),
           (0, False), (1, True), ("1", 0), (None, 1), ((1, 0), 1), ((1, 0), (0, 1))]
GRID = list(itertools.product(range(-9, 10), repeat=2))
# Looks with 2 directions that are wrong, and the index of the fault.
WRONG_LOOKS = [
    *[([value], 0) for value in NO_LOOK],
    *[([(1, 0), (0, 1), value], 2) for value in NO_LOOK],
    *[([(1, 0), (0, 1), (1, 1), (2, 1), (3, 1), value], 5) for value in NO_LOOK],
    ([], 0), ((), 0),
    ([(1, 0), (1, 0)], 1),
    ([(1, 0), (0, 1), (2, 2), (0, 1)], 3),
    ([(1, 0), (0, 1), (1, 0), (0, 0)], 2),
    ([(1, 0), (0, 0), (1, 0)], 1),
    ([(1, 0), (0, 1), (-1, 0), (0, -1), (2, 0)], 4),
    ([(1, 0), (0, 1), (-1, 0), (0, -1), (2, 0), (3, 0)], 4),
    ([(1, 0), (0, 1), (-1, 0), (0, -1), (1, 0)], 4),
    ([(1, 0), (0, 1), (-1, 0), (0, -1), (2, 0), (3, 0), (2, 0)], 6),
    ([look for look in GRID if any(look)], 4),
    ([look for look in GRID if any(look)] + [(9, 9)], 360),
    ([look for look in GRID if any(look)] + [(9, 9, 9)], 360),
    (((1, 0), (0, 1), (0, 10)), 2),
    # What is no list at all has no valid first item.
    (None, 0), (5, 0), ("", 0), ("fu", 0), (True, 0), ((1, 0), 0),
]


def all_looks(directions):
    return [look for look in itertools.product(range(-9, 10), repeat=directions) if any(look)]


class NewTableTest(ScanCase):
    def test_parts(self):
        table = Table((2, 1), [(1, 0), (0, -3), (9, -9)], ["fuf", "uuu"])
        self.assertEqual(table.divisors, (2, 1))
        self.assertEqual(table.looks(), [(1, 0), (0, -3), (9, -9)])
        self.assertEqual(table.words(), ["fuf", "uuu"])
        self.assertEqual(len(table), 2)
        self.assertEqual(repr(table), "Table(2 classes, 3 looks)")
        self.assertEqual(repr(Table((12,), [(1,)], ["f"] * 12)), "Table(12 classes, 1 looks)")
        self.assertEqual(repr(Table((1,), [(1,), (2,), (3,), (4,)], ["fffu"])), "Table(1 classes, 4 looks)")

    def test_by_name_and_tuples(self):
        table = Table(divisors=(2,), looks=((1,), (2,)), words=("fu", "uf"))
        self.assertEqual(table, Table((2,), [(1,), (2,)], ["fu", "uf"]))
        self.assertEqual(table.looks(), [(1,), (2,)])
        self.assertEqual(table.words(), ["fu", "uf"])

    def test_every_look_is_one(self):
        for directions in (1, 2):
            for look in all_looks(directions):
                self.assertEqual(Table((1,) * directions, [look], ["u"]).looks(), [look])
        for look in [(0, 0, 1), (-9, 9, 9), (0, -1, 0), (9, 0, 0)]:
            self.assertEqual(Table((1, 1, 1), [look], ["u"]).looks(), [look])

    def test_lists_may_change_later(self):
        looks, words = [(1,), (2,)], ["fu", "uf"]
        table = Table((2,), looks, words)
        looks.append((3,))
        looks[0] = (5,)
        words[0] = "x"
        words.clear()
        self.assertEqual(table.looks(), [(1,), (2,)])
        self.assertEqual(table.words(), ["fu", "uf"])

    def test_returned_lists_are_new(self):
        table = Table((2,), [(1,), (2,)], ["fu", "uf"])
        table.looks().clear()
        table.words().append("ff")
        self.assertEqual(table.looks(), [(1,), (2,)])
        self.assertEqual(table.words(), ["fu", "uf"])
        self.assertIsNot(table.looks(), table.looks())
        self.assertIsNot(table.words(), table.words())

    def test_arguments_are_not_changed(self):
        looks, words = [(1,), (2,)], ["fu", "uf"]
        Table((2,), looks, words)
        self.assertEqual((looks, words), ([(1,), (2,)], ["fu", "uf"]))

    def test_tables_do_not_change(self):
        table = Table((1,), [(1,)], ["f"])
        with self.assertRaises(AttributeError):
            table.divisors = (2,)


class TableErrorsTest(ScanCase):
    def test_divisors(self):
        for divisors in NO_DIVISORS:
            self.assert_error(InvalidDivisors, Table, divisors, [], [])
        for divisors in TOO_MANY:
            self.assert_error(TooManyClasses, Table, divisors, [None], ["x"], limit=12)

    def test_looks(self):
        for looks, index in WRONG_LOOKS:
            self.assert_error(InvalidLooks, Table, (1, 1), looks, ["x"], index=index)
            self.assert_error(InvalidLooks, Table, (2, 1), looks, [], index=index)
        self.assert_error(InvalidLooks, Table, (1,), [(1,), (1, 0)], ["ff"], index=1)
        self.assert_error(InvalidLooks, Table, (1, 1, 1), [(1, 0)], ["f"], index=0)

    def test_words(self):
        looks = [(1,), (2,)]
        for word in ["", "f", "fuf", "fx", "Fu", "f ", " f", "ff\n", "u-", "01", ("f", "u"), None]:
            self.assert_error(InvalidWords, Table, (3,), looks, [word, "ff", "ff"], index=0)
            self.assert_error(InvalidWords, Table, (3,), looks, ["uu", word, ""], index=1)
            self.assert_error(InvalidWords, Table, (3,), looks, ["ff", "fu", word, "ff"], index=2)
            self.assert_error(InvalidWords, Table, (3,), looks, ["ff", "fu", "fu", word], index=3)
            self.assert_error(InvalidWords, Table, (3,), looks, ["ff", word], index=1)

    def test_number_of_words(self):
        looks = [(1,), (2,)]
        for count in (0, 1, 2):
            self.assert_error(InvalidWords, Table, (3,), looks, ["fu"] * count, index=count)
        for count in (4, 5, 3000):
            self.assert_error(InvalidWords, Table, (3,), looks, ["fu"] * count, index=3)
        self.assert_error(InvalidWords, Table, (12,), looks, (), index=0)

    def test_the_first_error_counts(self):
        self.assert_error(InvalidDivisors, Table, (0,), [(0,)], ["x"])
        self.assert_error(TooManyClasses, Table, (13,), [(0,)], ["x"], limit=12)
        self.assert_error(InvalidLooks, Table, (2,), [(0,)], ["x"], index=0)


class TableOfScanTest(ScanCase):
    def test_scans_of_all_forms(self):
        source = random.Random(21)
        every = all_divisors(12)
        for at in range(260):
            scan = random_scan(Scan, source, every[at * 7 % len(every)])
            looks = random_looks(source, scan.directions, at % 4 + 1, source.choice([2, 3, 9]))
            table = Table.of(scan, looks)
            self.assertEqual(table.divisors, scan.divisors)
            self.assertEqual(table.looks(), looks)
            self.assertEqual(table.words(), seen_words(scan, looks))

    def test_the_same_for_all_places_of_a_class(self):
        source = random.Random(22)
        for at in range(120):
            scan = random_scan(Scan, source, source.choice(all_divisors(12)))
            looks = random_looks(source, scan.directions, 2, 3)
            table = Table.of(scan, looks)
            for reach in [3, 20, HUGE]:
                place = random_places(source, scan.directions, reach)
                for look in looks:
                    self.assertIs(table.sees(place, look), reference.before(scan, plus(place, look), place))
                    self.assertIs(table.sees(place, look), scan(plus(place, look), place))

    def test_errors(self):
        for looks, index in WRONG_LOOKS:
            self.assert_error(InvalidLooks, Table.of, Scan((2, 1)), looks, index=index)
        self.assert_error(InvalidLooks, Table.of, Scan((2,)), [(1,), (1, 0)], index=1)

    def test_by_name_and_copied(self):
        looks = [(0, 1)]
        table = Table.of(scan=snake_scan(2), looks=looks)
        looks.append((1, 0))
        self.assertEqual(table, Table((2, 1), ((0, 1),), ("u", "f")))
        self.assertEqual(looks, [(0, 1), (1, 0)])


class SeesTest(ScanCase):
    def test_sees(self):
        table = Table((2, 3), [(1, 0), (0, 2)], ["fu", "uf", "ff", "uu", "fu", "uf"])
        for place in itertools.product([-7, -2, -1, 0, 1, 2, 5, HUGE, -HUGE], repeat=2):
            word = table.words()[class_number((2, 3), place)]
            self.assertIs(table.sees(place, (1, 0)), word[0] == "f")
            self.assertIs(table.sees(place, (0, 2)), word[1] == "f")
        self.assertIs(table.sees(place=(0, 1), look=(0, 2)), True)

    def test_errors(self):
        table = Table((2, 1), [(1, 0), (0, 1)], ["fu", "uu"])
        for place in NO_PLACES:
            self.assert_error(InvalidPlace, table.sees, place, (1, 0), given=place)
            self.assert_error(InvalidPlace, table.sees, place, None, given=place)
        for look in [*NO_LOOK, (1, 1), (-1, 0), (0, 2), (9, 9)]:
            self.assert_error(InvalidLooks, table.sees, (5, 5), look, index=0)


class EqualityTest(unittest.TestCase):
    def test_equal(self):
        table = Table((2,), [(1,), (2,)], ["fu", "uf"])
        self.assertTrue(table == Table((2,), ((1,), (2,)), ("fu", "uf")))
        self.assertFalse(table != Table((2,), ((1,), (2,)), ("fu", "uf")))

    def test_unequal(self):
        table = Table((2,), [(1,), (2,)], ["fu", "uf"])
        others = [Table((2,), [(2,), (1,)], ["uf", "fu"]), Table((2,), [(1,), (2,)], ["fu", "uu"]),
                  Table((2,), [(1,), (3,)], ["fu", "uf"]), Table((2,), [(1,)], ["f", "u"]),
                  Table((4,), [(1,), (2,)], ["fu", "uf"] * 2), Scan((2,)), None, "fu", ["fu", "uf"], 2, ()]
        for other in others:
            self.assertFalse(table == other)
            self.assertTrue(table != other)
        one = Table((1, 2), [(1, 0)], ["f", "u"])
        self.assertFalse(one == Table((2, 1), [(1, 0)], ["f", "u"]))


class RefinedTest(ScanCase):
    def test_what_each_place_sees(self):
        source = random.Random(31)
        for _ in range(100):
            divisors = source.choice(all_divisors(6))
            finer = source.choice([finer for finer in all_divisors(12) if len(finer) == len(divisors)
                                   and not any(a % b for a, b in zip(finer, divisors))])
            looks = random_looks(source, len(divisors), source.randint(1, 4))
            table = Table(divisors, looks, random_words(source, divisors, looks))
            refined = table.refined(finer)
            self.assertEqual(refined.divisors, finer)
            self.assertEqual(refined.looks(), looks)
            self.assertEqual(len(refined), math.prod(finer))
            for rests in classes_in_order(finer) + [random_places(source, len(divisors), HUGE) for _ in range(5)]:
                for look in looks:
                    self.assertIs(refined.sees(rests, look), table.sees(rests, look))

    def test_same_divisors(self):
        table = Table((2, 3), [(1, 0)], ["f", "u", "u", "u", "f", "f"])
        self.assertEqual(table.refined((2, 3)), table)
        self.assertEqual(table.refined(divisors=(4, 3)).words(), table.words() * 2)

    def test_as_the_scan_refined(self):
        source = random.Random(32)
        scan = random_scan(Scan, source, (2, 3))
        looks = [(1, 0), (0, 1), (1, -1), (2, 5)]
        self.assertEqual(Table.of(scan, looks).refined((4, 3)), Table.of(scan.refined((4, 3)), looks))

    def test_errors(self):
        table = Table((2, 3), [(1, 0)], ["f"] * 6)
        for divisors in NO_DIVISORS:
            self.assert_error(InvalidDivisors, table.refined, divisors)
        for divisors in TOO_MANY:
            self.assert_error(TooManyClasses, table.refined, divisors, limit=12)
        for divisors in [(1, 3), (2, 1), (3, 2), (2, 4), (6,), (12,), (2, 3, 1), (1, 1)]:
            self.assert_error(InvalidDivisors, table.refined, divisors)


class JoinedTest(ScanCase):
    def test_joined(self):
        source = random.Random(41)
        for _ in range(80):
            divisors = source.choice(all_divisors(12))
            count = source.randint(2, 4)
            looks = random_looks(source, len(divisors), count)
            cut = source.randint(1, count - 1)
            words = random_words(source, divisors, looks)
            one = Table(divisors, looks[:cut], [word[:cut] for word in words])
            other = Table(divisors, looks[cut:], [word[cut:] for word in words])
            self.assertEqual(one.joined(other), Table(divisors, looks, words))
            self.assertEqual(len(one.looks()), cut)
            place = random_places(source, len(divisors), HUGE)
            for look in looks:
                part = one if look in one.looks() else other
                self.assertIs(one.joined(other).sees(place, look), part.sees(place, look))

    def test_unlike(self):
        one = Table((2,), [(1,)], ["f", "u"])
        for other in [Table((1,), [(1,)], ["f"]), Table((4,), [(2,)], ["f"] * 4), Table((2, 1), [(1, 0)], ["f"] * 2)]:
            self.assert_error(Unlike, one.joined, other)
            self.assert_error(Unlike, other.joined, one)

    def test_invalid_looks(self):
        def table(*numbers):
            return Table((1,), [(number,) for number in numbers], ["f" * len(numbers)])

        for one, other, index in [
            (table(1), table(1), 0), (table(1, 2), table(3, 2), 1), (table(1, 2), table(2, 1), 0),
            (table(1, 2, 3), table(4, 5), 1), (table(1, 2, 3, 4), table(5), 0), (table(1, 2), table(3, 4, 5), 2),
            (table(1, 2), table(3, 4, 5, 1), 2), (table(1, 2), table(3, 4, 1, 5), 2), (table(1), table(2, 3, 4, 1), 3),
            (table(1), table(2, 3, 4, 5), 3), (table(1), table(2, 1, 4, 5), 1), (table(1, 2, 3, 4), table(1, 5), 0),
        ]:
            self.assert_error(InvalidLooks, one.joined, other, index=index)
        self.assertEqual(table(1, 2, 3).joined(other=table(4)), table(1, 2, 3, 4))


class ClashesTest(unittest.TestCase):
    @staticmethod
    def wanted(table):
        found = []
        for rests in classes_in_order(table.divisors):
            for look in table.looks():
                if minus(look) in table.looks():
                    if table.sees(rests, look) == table.sees(plus(rests, look), minus(look)):
                        found.append((rests, look))
        return found

    def test_all_in_order(self):
        self.assertEqual(Table((1,), [(1,), (-1,)], ["ff"]).clashes(), [((0,), (1,)), ((0,), (-1,))])
        self.assertEqual(Table((1,), [(-1,), (1,)], ["uu"]).clashes(), [((0,), (-1,)), ((0,), (1,))])
        self.assertEqual(Table((1,), [(1,), (-1,)], ["fu"]).clashes(), [])
        self.assertEqual(Table((1,), [(1,), (-2,)], ["ff"]).clashes(), [])
        self.assertEqual(Table((3,), [(2,), (1,), (-1,)], ["fff", "fuf", "fuu"]).clashes(),
                         [((0,), (1,)), ((1,), (1,)), ((1,), (-1,)), ((2,), (-1,))])

    def test_drawn_words(self):
        source = random.Random(51)
        for _ in range(200):
            divisors = source.choice(all_divisors(12))
            looks = random_looks(source, len(divisors), 2)
            looks = list(dict.fromkeys(looks + [minus(look) for look in looks]))
            source.shuffle(looks)
            table = Table(divisors, looks, random_words(source, divisors, looks))
            self.assertEqual(table.clashes(), self.wanted(table))

    def test_none_for_a_scan(self):
        source = random.Random(52)
        for _ in range(100):
            scan = random_scan(Scan, source, source.choice(all_divisors(12)))
            look = random_looks(source, scan.directions, 1, 3)[0]
            self.assertEqual(Table.of(scan, [look, minus(look)]).clashes(), [])
        for scan in [rows_scan(3), snake_scan(3), blocks_scan((2, 1, 2))]:
            self.assertEqual(Table.of(scan, [(1, 0, 0), (0, -1, 1), (-1, 0, 0), (0, 1, -1)]).clashes(), [])

    def test_new_lists(self):
        table = Table((1,), [(1,), (-1,)], ["ff"])
        table.clashes().clear()
        self.assertEqual(len(table.clashes()), 2)


if __name__ == "__main__":
    unittest.main()

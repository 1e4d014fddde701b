"""A scan for a table, or a ring; and whether a scan has a table."""

import itertools
import math
import random
import unittest

from lookscan.errors import TooManyClasses, Unlike
from lookscan.makers import blocks_scan, keys_scan, rows_scan, snake_scan
from lookscan.scans import Scan
from lookscan.solving import has_table, solve
from lookscan.tables import Table
from tests.checks import ScanCase
from tests.reference import all_divisors, classes_in_order, common, count_nodes, minus, plus, random_looks
from tests.reference import random_matrix, random_places, random_scan, random_words, ring_fault, seen_words


def depth(tree):
    if tree[0] == "places":
        return 1
    if tree[0] == "key":
        return 1 + depth(tree[3])
    return 1 + max(depth(inner) for classes, inner in tree[1])


def ends(tree):
    if tree[0] == "places":
        return 1
    if tree[0] == "key":
        return ends(tree[3])
    return sum(ends(inner) for classes, inner in tree[1])


def numbers(tree):
    if tree[0] == "places":
        return []
    if tree[0] == "key":
        return [*tree[1], *tree[2], *numbers(tree[3])]
    return [number for classes, inner in tree[1] for number in [*classes, *numbers(inner)]]


def changed(table, source):
    """The table with one letter changed."""
    words = table.words()
    number, at = source.randrange(len(words)), source.randrange(len(table.looks()))
    letter = "u" if words[number][at] == "f" else "f"
    words[number] = words[number][:at] + letter + words[number][at + 1:]
    return Table(table.divisors, table.looks(), words)


class SolveCase(ScanCase):
    def assert_answer(self, table):
        """The answer is a scan with this very table and within the limits, or a ring; return its kind."""
        answer = solve(table)
        self.assertIs(type(answer), tuple)
        self.assertEqual(len(answer), 2)
        kind, found = answer
        if kind == "ring":
            self.assertIsNone(ring_fault(table, found), (table.divisors, table.looks(), table.words(), found))
        else:
            self.assertEqual(kind, "scan")
            self.assertIsInstance(found, Scan)
            self.assertEqual(found.divisors, table.divisors)
            self.assertEqual(seen_words(found, table.looks()), table.words())
            self.assert_limits(found.tree)
        self.assertEqual(solve(table), answer)
        return kind

    def assert_limits(self, tree):
        self.assertLessEqual(count_nodes(tree), 120)
        self.assertLessEqual(ends(tree), 20)
        self.assertLessEqual(depth(tree), 12)
        for number in numbers(tree):
            self.assertIs(type(number), int)
            self.assertLess(abs(number), 10 ** 30)


class ScansTest(SolveCase):
    """The table of a scan has no ring, so solve returns a scan."""

    def test_drawn_scans(self):
        source = random.Random(81)
        every = all_divisors(12)
        for at in range(400):
            scan = random_scan(Scan, source, every[at % len(every)], source.choice([2, 3]))
            looks = random_looks(source, scan.directions, at % 4 + 1, source.choice([2, 3, 9]))
            self.assertEqual(self.assert_answer(Table.of(scan, looks)), "scan")

    def test_slanted_scans(self):
        source = random.Random(82)
        solved = 0
        while solved < 60:
            directions = source.randint(1, 3)
            scan = random_scan(Scan, source, source.choice(
                [divisors for divisors in all_divisors(4) if len(divisors) == directions]), 2)
            try:
                slanted = scan.slanted(random_matrix(source, directions))
            except TooManyClasses:
                continue
            looks = random_looks(source, directions, 4, 3)
            self.assertEqual(self.assert_answer(Table.of(slanted, looks)), "scan")
            solved += 1

    def test_made_scans(self):
        looks = [(1, 0), (0, 1), (1, -1), (-2, 3)]
        inner = keys_scan(2, ((1, 1), 0, 2))
        for scan in [rows_scan(2), snake_scan(2), snake_scan(2).turned(), blocks_scan((3, 4)), blocks_scan((2, 3)),
                     blocks_scan((2, 2), inner=inner), blocks_scan((1, 6), inner=rows_scan(2).turned()),
                     keys_scan(2, ((4, -3), 2, 12), ((0, 1), 0, 1))]:
            for count in (1, 2, 3, 4):
                for chosen in itertools.combinations(looks, count):
                    self.assertEqual(self.assert_answer(Table.of(scan, chosen)), "scan")

    def test_long_numbers(self):
        # The scan's numbers are long, those of the answer need not be.
        far = 10 ** 29
        scan = Scan((2, 2), ("key", (far, far - 1), (0, far, -far, 5), ("places",)))
        self.assertEqual(self.assert_answer(Table.of(scan, [(1, -1), (9, -9), (1, 0), (-8, 9)])), "scan")

    def test_looks_and_their_opposites(self):
        source = random.Random(83)
        for _ in range(60):
            scan = random_scan(Scan, source, source.choice(all_divisors(12)))
            looks = random_looks(source, scan.directions, 2, 4)
            looks = list(dict.fromkeys(looks + [minus(look) for look in looks]))
            self.assertEqual(self.assert_answer(Table.of(scan, looks)), "scan")


class DrawnTablesTest(SolveCase):
    def test_drawn_words(self):
        source = random.Random(91)
        every = all_divisors(12)
        kinds = []
        for at in range(600):
            divisors = every[at * 5 % len(every)]
            looks = random_looks(source, len(divisors), at % 4 + 1, source.choice([2, 3, 9]))
            kinds.append(self.assert_answer(Table(divisors, looks, random_words(source, divisors, looks))))
        self.assertGreater(kinds.count("scan"), 100)
        self.assertGreater(kinds.count("ring"), 100)

    def test_twelve_classes_and_four_looks(self):
        source = random.Random(92)
        for divisors in [divisors for divisors in all_divisors(12) if math.prod(divisors) == 12]:
            for reach in (2, 3, 9):
                looks = random_looks(source, len(divisors), 4, reach)
                self.assert_answer(Table(divisors, looks, random_words(source, divisors, looks)))

    def test_a_word_of_a_scan_changed(self):
        source = random.Random(93)
        kinds = []
        for _ in range(300):
            scan = random_scan(Scan, source, source.choice(all_divisors(12)))
            looks = random_looks(source, scan.directions, source.randint(2, 4), source.choice([2, 3]))
            kinds.append(self.assert_answer(changed(Table.of(scan, looks), source)))
        self.assertGreater(kinds.count("scan"), 50)
        self.assertGreater(kinds.count("ring"), 50)

    def test_one_look(self):
        source = random.Random(94)
        for divisors in all_divisors(12):
            look = random_looks(source, len(divisors), 1)[0]
            for words in [random_words(source, divisors, [look]), ["f"] * math.prod(divisors)]:
                self.assertEqual(self.assert_answer(Table(divisors, [look], words)), "scan")

    def test_classes_of_their_own(self):
        # Each look leads back to the class of the place, so each class has its own order.
        source = random.Random(95)
        looks = {(3, 4): [(3, 0), (0, 4), (3, 4), (3, -4)], (2, 6): [(2, 0), (0, 6), (4, -6), (-2, -6)],
                 (2, 2, 3): [(2, 0, 0), (0, 2, 0), (0, 0, 3), (2, 2, 3)], (2, 2, 1): [(2, 0, 0), (0, 2, 0), (2, -2, 1)],
                 (3,): [(3,), (6,), (-9,)], (1, 1, 1): [(1, 0, 0), (0, 1, 0), (0, 0, 1), (1, 1, 1)]}
        for divisors, chosen in looks.items():
            for _ in range(20):
                self.assert_answer(Table(divisors, chosen, random_words(source, divisors, chosen)))
            scan = random_scan(Scan, source, divisors)
            self.assertEqual(self.assert_answer(Table.of(scan, chosen)), "scan")
        table = Table((12,), [(1,)], ["u", "f"] * 6)
        self.assertEqual(self.assert_answer(table), "scan")

    def test_all_tables_of_two_classes(self):
        for words in itertools.product(map("".join, itertools.product("fu", repeat=3)), repeat=2):
            for looks in [[(1,), (2,), (-1,)], [(1,), (3,), (2,)], [(2,), (-4,), (6,)]]:
                self.assert_answer(Table((2,), looks, words))

    def test_refined_tables(self):
        # A finer table has a scan if and only if the table itself has one.
        source = random.Random(96)
        for _ in range(120):
            divisors = source.choice(all_divisors(3))
            finer = tuple(divisor * times for divisor, times in zip(divisors, (2, 2, 1)))
            looks = random_looks(source, len(divisors), 4 if len(divisors) > 1 else 3, 2)
            table = Table(divisors, looks, random_words(source, divisors, looks))
            self.assertEqual(self.assert_answer(table), self.assert_answer(table.refined(finer)))


class RingsTest(SolveCase):
    def test_small_rings(self):
        for words in ["ff", "uu"]:
            self.assertEqual(solve(Table((1,), [(1,), (-1,)], [words])),
                             ("ring", [(0, (-1,), 1), (0, (1,), 1)]))
        self.assertEqual(solve(Table((1,), [(2,), (-3,)], ["uu"])), ("ring", [(0, (-3,), 2), (0, (2,), 3)]))

    def test_two_groups_that_only_balance_together(self):
        # Even places ascend by the look 2, odd ones descend: the steps balance, but do not hang together.
        table = Table((2,), [(2,)], ["u", "f"])
        self.assertEqual(self.assert_answer(table), "scan")
        table = Table((2,), [(2,), (1,)], ["uu", "ff"])
        self.assertEqual(self.assert_answer(table), "scan")
        table = Table((2,), [(2,), (1,)], ["uu", "fu"])
        self.assertEqual(self.assert_answer(table), "ring")

    def test_a_ring_within_a_group(self):
        # The odd classes by themselves have a ring, the even ones have none.
        table = Table((2, 1), [(2, 0), (-2, 0), (0, 1)], ["fuf", "ffu"])
        self.assertEqual(self.assert_answer(table), "ring")
        self.assertEqual({number for number, look, count in solve(table)[1]}, {1})

    def test_clashes_are_rings(self):
        source = random.Random(101)
        for _ in range(100):
            divisors = source.choice(all_divisors(12))
            look = random_looks(source, len(divisors), 1)[0]
            table = Table(divisors, [look, minus(look)], random_words(source, divisors, [look, look]))
            kind = self.assert_answer(table)
            if table.clashes():
                self.assertEqual(kind, "ring")

    def test_new_lists(self):
        table = Table((1,), [(1,), (-1,)], ["ff"])
        solve(table)[1].clear()
        self.assertEqual(len(solve(table)[1]), 2)

    def test_by_name(self):
        self.assertEqual(solve(table=Table((1,), [(1,)], ["f"]))[0], "scan")


class HasTableTest(ScanCase):
    def test_own_and_refined_and_changed_tables(self):
        source = random.Random(111)
        for _ in range(150):
            scan = random_scan(Scan, source, source.choice(all_divisors(6)))
            looks = random_looks(source, scan.directions, source.randint(1, 4) if scan.directions > 1 else 2, 4)
            table = Table.of(scan, looks)
            self.assertIs(has_table(scan, table), True)
            self.assertIs(has_table(scan, changed(table, source)), False)
            finer = (scan.divisors[0] * 2, *scan.divisors[1:])
            self.assertIs(has_table(scan, table.refined(finer)), True)
            self.assertIs(has_table(scan.refined(finer), table), True)
            self.assertIs(has_table(scan, changed(table.refined(finer), source)), False)
            self.assertIs(has_table(scan.refined(finer), changed(table, source)), False)

    def test_other_divisors(self):
        source = random.Random(112)
        answers = []
        for _ in range(200):
            divisors, others = source.choice([((2,), (3,)), ((4,), (6,)), ((2, 1), (1, 2)), ((1, 1), (2, 3)),
                                              ((3, 1), (2, 2)), ((2, 1, 1), (1, 2, 3))])
            scan = random_scan(Scan, source, divisors, 1)
            looks = random_looks(source, len(divisors), source.randint(1, 2), 2)
            other = random_scan(Scan, source, others, 1)
            places = classes_in_order(common(divisors, others))
            wanted = all(scan(plus(place, look), place) == other(plus(place, look), place)
                         for place in places for look in looks)
            self.assertIs(has_table(scan, Table.of(other, looks)), wanted)
            answers.append(wanted)
        self.assertGreater(answers.count(True), 10)
        self.assertGreater(answers.count(False), 10)

    def test_places_far_away(self):
        source = random.Random(113)
        scan, looks = snake_scan(3), [(0, 0, 1), (0, 1, 0), (1, -1, 0)]
        table = Table.of(scan, looks)
        for _ in range(30):
            place = random_places(source, 3, 10 ** 29)
            self.assertEqual([table.sees(place, look) for look in looks],
                             [scan(plus(place, look), place) for look in looks])
        self.assertIs(has_table(scan.shifted((2, 0, 5)), table), True)
        self.assertIs(has_table(scan.shifted((1, 0, 0)), table), False)
        self.assertIs(has_table(scan.shifted((1, 10 ** 29 + 1, 0)), table), True)

    def test_errors_in_order(self):
        table = Table((5,), [(1,)], ["f"] * 5)
        self.assert_error(Unlike, has_table, Scan((4, 3)), table)
        self.assert_error(Unlike, has_table, Scan((1, 1)), table)
        self.assert_error(Unlike, has_table, Scan((1, 1)), Table((12, 1, 1), [(1, 0, 0)], ["f"] * 12))
        self.assert_error(TooManyClasses, has_table, Scan((3,)), table, limit=12)
        self.assert_error(TooManyClasses, has_table, Scan((12,)), table, limit=12)
        self.assert_error(TooManyClasses, has_table, Scan((2, 2)), Table((1, 8), [(1, 0)], ["f"] * 8), limit=12)
        self.assertIs(has_table(Scan((2,)), table), False)
        self.assertIs(has_table(scan=Scan((1,)), table=Table((12,), [(1,)], ["u"] * 12)), True)


if __name__ == "__main__":
    unittest.main()

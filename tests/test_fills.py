"""Filling boxes by rules, cell by cell and by waves; what the cells see; scans that fill alike."""

import random
import unittest

from lookscan import fills
from lookscan.alike import alike_in, parting
from lookscan.errors import InvalidBox, InvalidLooks, InvalidRule, InvalidValues, TooManyCells
from lookscan.fills import fill, fill_by_waves, views
from lookscan.makers import blocks_scan, keys_scan, rows_scan, snake_scan
from lookscan.scans import Scan
from lookscan.solving import solve
from lookscan.tables import Table
from tests.checks import ScanCase
from tests.reference import HUGE, all_forms, before, cells_of, minus, plain_fill, plus
from tests.reference import random_box, random_looks, random_rule, random_values
from tests.test_places import NO_BOXES
from tests.test_tables import WRONG_LOOKS

BOTH = [fill, fill_by_waves]
RULE = (10, 1, (1, 2), 3, 4)
# Values that are no numbers, and a number inside of a tuple.
NO_NUMBERS = [None, True, False, "", "3", (), (3,)]
# Rules for two looks that are wrong, and the index of the fault.
WRONG_RULES = [
    ((), 0), ((10,), 1), ((10, 1, (1, 2), 3), 4), ((10, 1, (1, 2), 3, 4, 5), 6), ((None,) * 7, 7), ((1,) * 4, 4),
    *[((value, 1, (1, 2), 3, 4), 0) for value in [*NO_NUMBERS, 1, 0, -1, -10, 1000001, HUGE, -HUGE]],
    *[((10, value, (1, 2), 3, 4), 1) for value in NO_NUMBERS],
    *[((10, 1, value, 3, 4), 2) for value in [None, True, "12", "", 1, (), (1,), (1, 2, 3), (1, True), (False, 2),
                                               (1, None), ("1", 2), ((1, 2),), ((1,), 2), ((1, 2), (1, 2))]],
    *[((10, 1, (1, 2), value, 4), 3) for value in NO_NUMBERS],
    *[((10, 1, (1, 2), 3, value), 4) for value in NO_NUMBERS],
    ((1, None, None, None, None), 0), ((2, None, (1,), "", None), 1), ((2, 0, (1,), True, None), 2),
    ((2, 0, (1, 1), True, None), 3), ((True, 0, (1, 1), 0, 0), 0), ((10, 1, (1, 2), 3, True), 4),
]
# Values for four cells and the modulus 10 that are wrong, and the index of the fault.
WRONG_VALUES = [
    ([], 0), ((), 0), ([1], 1), ([1, 2, 3], 3), ([1, 2, 3, 4, 5], 4), ([1, 2, 3, 4, 5, 6], 4), ([1, 2, 3, 4, None], 4),
    ([0] * 3000, 4), *[([value, 2, 3, 4], 0) for value in [None, True, False, "1", "", -1, 10, HUGE, -HUGE]],
    *[([1, 2, value], 2) for value in [None, True, "1", -1, 10]], ([1, 2, 3, 10, 5], 3), ([1, -1, 3, None, 5, 6], 1),
    ([1, 2, 3, False], 3),
]


class FillCase(ScanCase):
    def assert_fill(self, scan, looks, box, rule, begun):
        given = list(begun)
        wanted = plain_fill(scan, looks, box, rule, begun)
        for call in BOTH:
            found = call(scan, looks, box, rule, begun)
            self.assertIs(type(found), list)
            self.assertEqual(found, wanted)
        self.assertEqual(begun, given)
        return wanted


class DrawnFillsTest(FillCase):
    def test_scans_of_all_forms(self):
        source = random.Random(401)
        for at, scan in enumerate(all_forms(Scan, source, 250)):
            looks = random_looks(source, scan.directions, at % 4 + 1, source.choice([1, 2, 3]) if scan.directions > 1
                                 else 4)
            box = random_box(source, scan.directions, 40)
            rule = random_rule(source, looks)
            self.assert_fill(scan, looks, box, rule, random_values(source, rule, box))

    def test_made_scans(self):
        source = random.Random(402)
        for scan in [rows_scan(2), snake_scan(2), blocks_scan((2, 3)), keys_scan(2, ((1, 1), 0, 2)),
                     snake_scan(2).slanted(((1, 1), (0, 1))), snake_scan(2).turned(), snake_scan(2).shifted((1, 0))]:
            for looks in [[(1, 0), (0, 1), (-1, 0), (0, -1)], [(-1, -1)], [(2, -1), (0, 1)]]:
                rule = random_rule(source, looks)
                self.assert_fill(scan, looks, (6, 5), rule, random_values(source, rule, (6, 5)))


class SmallFillsTest(FillCase):
    def test_constants(self):
        self.assertEqual(fills.MAX_MODULUS, 1000000)

    def test_each_part_of_a_rule(self):
        rows = rows_scan(1)
        for rule, wanted in [
            ((10, 1, (0,), 0, 0), [1, 2, 3, 4]), ((10, 3, (0,), 0, 0), [3, 6, 9, 2]), ((10, -1, (0,), 0, 0), [9, 8, 7, 6]),
            ((10, 0, (1,), 0, 0), [0, 0, 0, 0]), ((10, 0, (1,), 0, 7), [7, 7, 7, 7]), ((10, 0, (1,), 0, -7), [3, 3, 3, 3]),
            ((10, 0, (0,), 13, 5), [3, 3, 3, 3]), ((10, 0, (0,), -1, 5), [9, 9, 9, 9]),
            ((10, 1, (1,), 0, 0), [1, 3, 6, 0]), ((10, 1, (-1,), 0, 0), [1, 1, 2, 2]),
            ((10, 0, (2,), 1, HUGE), [5, 1, 3, 7]), ((2, 5, (7,), 0, 0), None), ((1000000, HUGE, (-HUGE,), 1, -HUGE), None),
        ]:
            begun = [1, 2, 3, 4] if rule[0] > 2 else [1, 0, 1, 1]
            found = self.assert_fill(rows, [(-1,)], (4,), rule, begun)
            if wanted is not None:
                self.assertEqual(found, wanted)

    def test_old_and_new_values(self):
        # What comes before shows its new value, what comes later its old one.
        rule = (100, 0, (1, 10), 0, 9)
        self.assertEqual(fill(rows_scan(1), [(-1,), (1,)], (3,), rule, [1, 2, 3]), [29, 59, 49])
        self.assertEqual(fill(rows_scan(1).turned(), [(-1,), (1,)], (3,), rule, [1, 2, 3]), [19, 21, 92])

    def test_boxes_without_cells_and_with_one(self):
        for call in BOTH:
            self.assertEqual(call(snake_scan(2), [(1, 0), (0, 1)], (0, HUGE), RULE, []), [])
            self.assertEqual(call(snake_scan(2), [(1, 0), (0, 1)], (HUGE, 0), RULE, ()), [])
            self.assertEqual(call(snake_scan(2), [(1, 0), (0, 1)], (1, 1), RULE, [5]), [0])

    def test_2000_cells(self):
        source = random.Random(411)
        for scan, looks, box in [(rows_scan(1), [(-1,), (2,)], (2000,)), (snake_scan(2), [(0, 1), (-1, 0)], (40, 50)),
                                 (rows_scan(3), [(0, 0, -1), (-1, 1, 0)], (10, 10, 20))]:
            rule = random_rule(source, looks)
            self.assert_fill(scan, looks, box, rule, random_values(source, rule, box))

    def test_the_greatest_and_the_least_modulus(self):
        self.assertEqual(fill(rows_scan(1), [(-1,)], (2,), (1000000, 1, (0,), 0, 0), [999999, 0]), [999999, 0])
        self.assertEqual(fill(rows_scan(1), [(-1,)], (2,), (2, 1, (1,), 1, 0), [1, 1]), [0, 0])

    def test_arguments_stay_and_lists_are_new(self):
        looks, begun = [(-1,)], [1, 2, 3]
        for call in BOTH:
            found = call(rows_scan(1), looks, (3,), (10, 1, (0,), 0, 0), begun)
            self.assertEqual(found, begun)
            found.clear()
            self.assertEqual((looks, begun), ([(-1,)], [1, 2, 3]))
            self.assertEqual(call(rows_scan(1), tuple(looks), (3,), (10, 1, (0,), 0, 0), tuple(begun)), [1, 2, 3])

    def test_by_name(self):
        for call in BOTH:
            self.assertEqual(call(begun=[5, 5], rule=(10, 0, (1,), 1, 0), box=(2,), looks=[(-1,)], scan=rows_scan(1)),
                             [1, 2])
        self.assertEqual(views(box=(2,), looks=[(-1,)], scan=rows_scan(1)), ["-", "f"])


class FillErrorsTest(ScanCase):
    def test_looks(self):
        for call in BOTH:
            for looks, index in WRONG_LOOKS:
                self.assert_error(InvalidLooks, call, snake_scan(2), looks, (2, 2), RULE, [1, 2, 3, 4], index=index)
            self.assert_error(InvalidLooks, call, snake_scan(2), [(0, 0)], None, (), [None], index=0)

    def test_boxes(self):
        looks = [(1, 0), (0, 1)]
        for call in BOTH:
            for box in [*NO_BOXES, (4,), (2, 2, 1)]:
                self.assert_error(InvalidBox, call, snake_scan(2), looks, box, RULE, [1, 2, 3, 4], given=box)
                self.assert_error(InvalidBox, call, snake_scan(2), looks, box, (), [None], given=box)
            for box in [(2001, 1), (HUGE, 1)]:
                self.assert_error(TooManyCells, call, snake_scan(2), looks, box, RULE, [1] * 2001, limit=2000)
                self.assert_error(TooManyCells, call, snake_scan(2), looks, box, (), [None], limit=2000)

    def test_rules(self):
        for call in BOTH:
            for rule, index in WRONG_RULES:
                for begun in [[1, 1, 0, 0], [None], []]:
                    self.assert_error(InvalidRule, call, snake_scan(2), [(1, 0), (0, 1)], (2, 2), rule, begun, index=index)
            self.assert_error(InvalidRule, call, snake_scan(2), [(1, 0)], (2, 2), RULE, [1, 2, 3, 4], index=2)
            self.assert_error(InvalidRule, call, snake_scan(2), [(1, 0)], (0, 2), RULE, [], index=2)

    def test_values(self):
        for call in BOTH:
            for begun, index in WRONG_VALUES:
                self.assert_error(InvalidValues, call, snake_scan(2), [(1, 0), (0, 1)], (2, 2), RULE, begun, index=index)
            self.assert_error(InvalidValues, call, snake_scan(2), [(1, 0), (0, 1)], (0, 2), RULE, [1], index=0)
            self.assert_error(InvalidValues, call, rows_scan(1), [(1,)], (2,), (2, 0, (0,), 0, 0), [1, 2], index=1)


class ViewsTest(ScanCase):
    @staticmethod
    def wanted(scan, looks, box):
        found = []
        for cell in cells_of(box):
            word = ""
            for look in looks:
                neighbour = plus(cell, look)
                if neighbour not in cells_of(box):
                    word += "-"
                else:
                    word += "f" if before(scan, neighbour, cell) else "u"
            found.append(word)
        return found

    def test_drawn_scans(self):
        source = random.Random(421)
        for at, scan in enumerate(all_forms(Scan, source, 150)):
            looks = random_looks(source, scan.directions, at % 4 + 1, 3 if scan.directions > 1 else 5)
            box = random_box(source, scan.directions, 30)
            self.assertEqual(views(scan, looks, box), self.wanted(scan, looks, box))

    def test_small_boxes(self):
        self.assertEqual(views(snake_scan(2), [(0, 1), (-1, 0)], (2, 3)), ["u-", "u-", "--", "ff", "ff", "-f"])
        self.assertEqual(views(snake_scan(2), [(0, 1)], (0, HUGE)), [])
        self.assertEqual(views(snake_scan(2), [(0, 1), (9, 9)], (1, 1)), ["--"])
        self.assertEqual(views(rows_scan(1), [(-1,)], (2000,)), ["-"] + ["f"] * 1999)

    def test_the_opposite_sees_every_neighbour_the_other_way(self):
        source = random.Random(422)
        for scan in all_forms(Scan, source, 80, most=6):
            looks = random_looks(source, scan.directions, 2, 3)
            box = random_box(source, scan.directions, 30)
            swapped = [word.translate(str.maketrans("fu", "uf")) for word in views(scan, looks, box)]
            self.assertEqual(views(scan.turned(), looks, box), swapped)

    def test_errors_in_order(self):
        for looks, index in WRONG_LOOKS:
            self.assert_error(InvalidLooks, views, snake_scan(2), looks, (HUGE,), index=index)
        for box in [*NO_BOXES, (3,), (3, 3, 3)]:
            self.assert_error(InvalidBox, views, snake_scan(2), [(1, 0)], box, given=box)
        self.assert_error(TooManyCells, views, snake_scan(2), [(1, 0)], (2001, 1), limit=2000)
        self.assert_error(TooManyCells, views, snake_scan(2), [(1, 0)], (HUGE, HUGE), limit=2000)

    def test_new_lists(self):
        looks = [(1,)]
        views(rows_scan(1), looks, (2,)).clear()
        self.assertEqual(views(rows_scan(1), tuple(looks), (2,)), ["u", "-"])
        self.assertEqual(looks, [(1,)])


class AlikeFillsTest(FillCase):
    """[10]: two scans fill a box alike exactly if every rule leads to the same values by both."""

    def test_drawn_scans(self):
        source = random.Random(431)
        parted = alike = 0
        forms = list(all_forms(Scan, source, 400, most=4))
        for one, other in zip(forms, forms[1:]):
            if one.directions != other.directions:
                other = one.turned() if source.random() < 0.3 else one.shifted((1,) * one.directions)
            looks = random_looks(source, one.directions, source.randint(1, 2), 2)
            box = random_box(source, one.directions, 20)
            if alike_in(one, other, looks, box):
                alike += 1
                for _ in range(3):
                    rule = random_rule(source, looks)
                    begun = random_values(source, rule, box)
                    self.assertEqual(fill(one, looks, box, rule, begun), fill(other, looks, box, rule, begun))
            else:
                parted += 1
                self.assert_parted(one, other, looks, box)
        self.assertGreater(alike, 60)
        self.assertGreater(parted, 60)

    def assert_parted(self, one, other, looks, box):
        """The rule that adds 1 to what stands at the parting look tells them apart at the parting cell."""
        cell, neighbour = parting(one, other, looks, box)
        weights = tuple(int(plus(cell, look) == neighbour) for look in looks)
        self.assertEqual(sum(weights), 1)
        rule = (1000000, 0, weights, 1, 0)
        begun = [0] * len(cells_of(box))
        at = cells_of(box).index(cell)
        for call in BOTH:
            self.assertNotEqual(call(one, looks, box, rule, begun)[at], call(other, looks, box, rule, begun)[at])

    def test_scans_that_only_order_cells_that_are_no_neighbours_differently(self):
        source = random.Random(432)
        one, other, looks = rows_scan(2), keys_scan(2, ((0, 1), 0, 1)), [(1, 0), (0, 1), (1, 1)]
        self.assertNotEqual(one.order((4, 4)), other.order((4, 4)))
        for _ in range(10):
            rule = random_rule(source, looks)
            begun = random_values(source, rule, (4, 4))
            self.assertEqual(fill(one, looks, (4, 4), rule, begun), fill(other, looks, (4, 4), rule, begun))

    def test_the_scan_of_solve_fills_alike(self):
        source = random.Random(433)
        for scan in all_forms(Scan, source, 120):
            looks = random_looks(source, scan.directions, source.randint(1, 4), 3) if scan.directions > 1 \
                else random_looks(source, 1, 3, 4)
            kind, found = solve(Table.of(scan, looks))
            self.assertEqual(kind, "scan")
            box = random_box(source, scan.directions, 40)
            self.assertIs(alike_in(scan, found, looks, (HUGE,) * scan.directions), True)
            rule = random_rule(source, looks)
            begun = random_values(source, rule, box)
            self.assertEqual(fill(scan, looks, box, rule, begun), fill(found, looks, box, rule, begun))
            self.assertEqual(views(scan, looks, box), views(found, looks, box))

    def test_refined_scans_fill_alike(self):
        source = random.Random(434)
        for scan in all_forms(Scan, source, 60, most=6):
            finer = scan.refined((scan.divisors[0] * 2, *scan.divisors[1:]))
            looks = random_looks(source, scan.directions, 2, 3)
            looks = list(dict.fromkeys(looks + [minus(look) for look in looks]))
            box = random_box(source, scan.directions, 40)
            rule = random_rule(source, looks)
            begun = random_values(source, rule, box)
            for call in BOTH:
                self.assertEqual(call(scan, looks, box, rule, begun), call(finer, looks, box, rule, begun))


if __name__ == "__main__":
    unittest.main()

"""Rings: which lists are rings of a table, and the walks for which they stand."""

import random
import unittest

from lookscan import rings
from lookscan.errors import InvalidRing, TooLong
from lookscan.rings import is_ring, ring_box, ring_cells
from lookscan.solving import solve
from lookscan.tables import Table
from tests.checks import ScanCase
from tests.reference import HUGE, all_divisors, arc_steps, class_number, minus, plus
from tests.reference import random_looks, random_words, ring_fault

# One class; the looks 2 and -3 are both unfilled: three steps of 2 and two of -3 lead back.
STEPS = Table((1,), [(2,), (-3,)], ["uu"])
STEPS_RING = [(0, (-3,), 2), (0, (2,), 3)]
# Two classes, each by itself, both with a ring of its own.
APART = Table((2,), [(2,), (-2,)], ["uu", "ff"])
APART_RINGS = [[(0, (-2,), 1), (0, (2,), 1)], [(1, (-2,), 1), (1, (2,), 1)]]


def drawn_rings(seed, count):
    """Tables with drawn words, and the rings that solve returns for them."""
    source = random.Random(seed)
    every = all_divisors(12)
    found = 0
    while found < count:
        divisors = source.choice(every)
        looks = random_looks(source, len(divisors), source.randint(2, 4), source.choice([1, 2, 3, 9])
                             if len(divisors) > 1 else source.choice([3, 9]))
        table = Table(divisors, looks, random_words(source, divisors, looks))
        kind, ring = solve(table)
        if kind == "ring":
            found += 1
            yield table, ring


def multiplied(ring, times):
    return [(number, look, count * times) for number, look, count in ring]


class IsRingTest(unittest.TestCase):
    def test_rings_of_solve_and_multiples(self):
        for table, ring in drawn_rings(201, 150):
            self.assertIs(is_ring(table, ring), True)
            self.assertIs(is_ring(table, tuple(ring)), True)
            for times in (2, 7, HUGE):
                self.assertIs(is_ring(table, multiplied(ring, times)), True)

    def test_a_ring_of_more_than_a_simple_walk(self):
        # Each class of APART has a ring, but the two do not hang together.
        for ring in APART_RINGS:
            self.assertIs(is_ring(APART, ring), True)
        self.assertIs(is_ring(APART, APART_RINGS[0] + APART_RINGS[1]), False)
        # With looks by which the classes hang together, both rings are one.
        joined = APART.joined(Table((2,), [(1,), (-1,)], ["uu", "uu"]))
        bridge = [(0, (-1,), 1), (0, (1,), 1), (1, (-1,), 1), (1, (1,), 1)]
        self.assertIs(is_ring(joined, sorted(APART_RINGS[0] + APART_RINGS[1])), False)
        self.assertIs(is_ring(joined, sorted(APART_RINGS[0] + APART_RINGS[1] + bridge)), True)

    def test_counts(self):
        self.assertIs(is_ring(STEPS, STEPS_RING), True)
        for wrong in [[(0, (-3,), 1), (0, (2,), 3)], [(0, (-3,), 2), (0, (2,), 2)], [(0, (-3,), 2), (0, (2,), 0)],
                      [(0, (-3,), -2), (0, (2,), -3)], [(0, (-3,), 0), (0, (2,), 0)], [(0, (-3,), 2)],
                      [(0, (2,), 3)], [(0, (-3,), 2 * HUGE), (0, (2,), 3 * HUGE + 1)]]:
            self.assertIs(is_ring(STEPS, wrong), False)

    def test_classes_and_looks(self):
        for wrong in [[(1, (-3,), 2), (1, (2,), 3)], [(-1, (-3,), 2), (-1, (2,), 3)], [(0, (-3,), 2), (1, (2,), 3)],
                      [(0, (-3,), 2), (0, (3,), 2)], [(0, (-2,), 2), (0, (2,), 2)], [(0, (-3, 0), 2), (0, (2, 0), 3)],
                      [(0, (), 2), (0, (2,), 3)], [(0, (0,), 5)], [(HUGE, (-3,), 2), (HUGE, (2,), 3)]]:
            self.assertIs(is_ring(STEPS, wrong), False)

    def test_order_and_repeats(self):
        for wrong in [[(0, (2,), 3), (0, (-3,), 2)], STEPS_RING + STEPS_RING, STEPS_RING + STEPS_RING[1:],
                      [(0, (-3,), 1), (0, (-3,), 1), (0, (2,), 3)], [(0, (-3,), 2), (0, (2,), 1), (0, (2,), 2)]]:
            self.assertIs(is_ring(STEPS, wrong), False)

    def test_the_empty_list(self):
        for table in (STEPS, APART):
            self.assertIs(is_ring(table, []), False)
            self.assertIs(is_ring(table, ()), False)

    def test_steps_that_balance_only_in_the_classes(self):
        # From class 0 to 1 and on to 0, but four places further.
        table = Table((2,), [(1,), (3,)], ["uu", "uu"])
        self.assertIs(is_ring(table, [(0, (1,), 1), (1, (3,), 1)]), False)
        # The steps add up to 0, but two arcs lead to class 1 and none from it.
        table = Table((2,), [(1,), (-1,)], ["uu", "fu"])
        self.assertIs(is_ring(table, [(0, (-1,), 1), (0, (1,), 1)]), False)

    def test_items_of_other_forms(self):
        for wrong in [None, 5, "abc", (), (0,), (0, (2,)), (0, (2,), 3, 1), (0, 2, 3), (0, None, 3), ("0", (2,), 3),
                      (0, (2,), None), (None, (2,), 3)]:
            self.assertIs(is_ring(STEPS, [wrong]), False)
            self.assertIs(is_ring(STEPS, [STEPS_RING[0], wrong]), False)

    def test_true_is_no_number(self):
        table = Table((2,), [(1,), (-1,)], ["ff", "ff"])
        ring = [(0, (-1,), 1), (1, (1,), 1)]
        self.assertIs(is_ring(table, ring), True)
        for wrong in [[(False, (-1,), 1), (1, (1,), 1)], [(0, (-1,), 1), (True, (1,), 1)],
                      [(0, (-1,), True), (1, (1,), 1)], [(0, (-1,), 1), (1, (True,), 1)]]:
            self.assertIs(is_ring(table, wrong), False)

    def test_drawn_changes(self):
        source = random.Random(202)
        wrong = 0
        for table, ring in drawn_rings(203, 150):
            for _ in range(12):
                changed = self.changed(source, table, ring)
                wanted = self.wanted(table, changed)
                self.assertIs(is_ring(table, changed), wanted, (table.words(), changed))
                wrong += not wanted
        self.assertGreater(wrong, 1000)

    @staticmethod
    def changed(source, table, ring):
        found = list(ring)
        at = source.randrange(len(found))
        number, look, count = found[at]
        other = source.randrange(len(found))
        choice = source.randrange(7)
        if choice == 0:
            found[at] = (number, look, count + source.choice([-count, -2, -1, 1, 5]))
        elif choice == 1:
            found[at] = (number, source.choice([minus(look), *table.looks()]), count)
        elif choice == 2:
            found[at] = (number + source.choice([-1, 1, len(table)]), look, count)
        elif choice == 3:
            del found[at]
        elif choice == 4:
            found.insert(other, found[at])
        elif choice == 5:
            found[at], found[other] = found[other], found[at]
        else:
            found = sorted([*found, (source.randrange(len(table)), source.choice(table.looks()), 1)])
        return found

    @staticmethod
    def wanted(table, ring):
        for number, look, count in ring:
            if not 0 <= number < len(table) or look not in table.looks():
                return False
        return ring_fault(table, ring) is None

    def test_the_list_is_not_changed(self):
        for ring in [list(STEPS_RING), STEPS_RING[::-1], [], [(5, (2,), 3)]]:
            copy = list(ring)
            is_ring(STEPS, ring)
            self.assertEqual(ring, copy)
        ring = list(STEPS_RING)
        ring_cells(STEPS, ring)
        ring_box(STEPS, ring)
        self.assertEqual(ring, STEPS_RING)

    def test_a_scan_has_no_ring(self):
        source = random.Random(204)
        for table, ring in drawn_rings(205, 60):
            words = random_words(source, table.divisors, table.looks())
            other = Table(table.divisors, table.looks(), words)
            if solve(other)[0] == "scan":
                self.assertIs(is_ring(other, ring), False)

    def test_by_name(self):
        self.assertIs(is_ring(ring=STEPS_RING, table=STEPS), True)
        self.assertEqual(ring_cells(ring=STEPS_RING, table=STEPS), ring_cells(STEPS, STEPS_RING))
        self.assertEqual(ring_box(ring=STEPS_RING, table=STEPS), ring_box(STEPS, STEPS_RING))


class WalkTest(ScanCase):
    def assert_walk(self, table, ring):
        places = ring_cells(table, ring)
        self.assertIs(type(places), list)
        self.assertEqual(len(places), sum(count for number, look, count in ring))
        went = {}
        for place, after in zip(places, places[1:] + places[:1]):
            step = plus(after, minus(place))
            key = class_number(table.divisors, place), step
            went[key] = went.get(key, 0) + 1
        self.assertEqual(went, arc_steps(table, ring))
        for place in places:
            self.assertIs(type(place), tuple)
            self.assertGreaterEqual(min(place), 0)
        self.assertEqual(ring_box(table, ring), tuple(max(numbers) + 1 for numbers in zip(*places)))
        self.assertEqual(ring_cells(table, ring), places)

    def test_small_walks(self):
        self.assert_walk(STEPS, STEPS_RING)
        for ring in APART_RINGS:
            self.assert_walk(APART, ring)
        table = Table((1,), [(1,), (-1,)], ["ff"])
        self.assertEqual(sorted(ring_cells(table, [(0, (-1,), 1), (0, (1,), 1)])), [(0,), (1,)])
        self.assertEqual(ring_box(table, [(0, (-1,), 1), (0, (1,), 1)]), (2,))

    def test_the_classes_stay(self):
        # The odd places 1 and 3: a box that has them has four cells.
        self.assertEqual(sorted(ring_cells(APART, APART_RINGS[1])), [(1,), (3,)])
        self.assertEqual(ring_box(APART, APART_RINGS[1]), (4,))
        self.assertEqual(ring_box(APART, APART_RINGS[0]), (3,))

    def test_drawn_rings_and_multiples(self):
        walked = 0
        for table, ring in drawn_rings(211, 120):
            for times in (1, 2, 3):
                more = multiplied(ring, times)
                if sum(count for number, look, count in more) <= 2000:
                    self.assert_walk(table, more)
                    walked += 1
        self.assertGreater(walked, 200)

    def test_a_walk_that_must_come_back_several_times(self):
        # A long way round and short ways at each of its classes.
        table = Table((4,), [(4,), (-4,), (1,), (-3,)], ["uuuu"] * 4)
        ring = [(number, (4,), 9) for number in range(4)] + [(number, (-4,), 10) for number in range(4)]
        ring += [(number, (1,), 4) for number in range(4)]
        self.assertIs(is_ring(table, sorted(ring)), True)
        self.assert_walk(table, sorted(ring))

    def test_exactly_2000_and_more(self):
        self.assertEqual(rings.MAX_RING, 2000)
        self.assert_walk(STEPS, multiplied(STEPS_RING, 400))
        table = Table((1,), [(1,), (-1,)], ["ff"])
        ring = [(0, (-1,), 1), (0, (1,), 1)]
        self.assert_walk(table, multiplied(ring, 1000))
        for wrong_table, wrong in [(STEPS, multiplied(STEPS_RING, 401)), (table, multiplied(ring, 1001)),
                                   (table, multiplied(ring, HUGE)), (STEPS, multiplied(STEPS_RING, HUGE))]:
            self.assert_error(TooLong, ring_cells, wrong_table, wrong, limit=2000)
            self.assert_error(TooLong, ring_box, wrong_table, wrong, limit=2000)

    def test_no_rings(self):
        for wrong in [[], (), STEPS_RING[::-1], STEPS_RING[:1], [(0, (-3,), 3), (0, (2,), 3)], [(1, (2,), 3)],
                      [(0, (-3,), 4000), (0, (2,), 3)], [(0, (2,), 2001)], [(0, (1,), 5000)]]:
            self.assert_error(InvalidRing, ring_cells, STEPS, wrong)
            self.assert_error(InvalidRing, ring_box, STEPS, wrong)

    def test_new_lists(self):
        ring_cells(STEPS, STEPS_RING).clear()
        self.assertEqual(len(ring_cells(STEPS, STEPS_RING)), 5)


class JoinedTest(unittest.TestCase):
    def test_a_ring_stays_a_ring_when_looks_are_joined_behind(self):
        source = random.Random(221)
        joined = 0
        for table, ring in drawn_rings(222, 150):
            more = [look for look in random_looks(source, len(table.divisors), 2) if look not in table.looks()]
            more = more[:4 - len(table.looks())]
            if more:
                other = Table(table.divisors, more, random_words(source, table.divisors, more))
                self.assertIs(is_ring(table.joined(other), ring), True)
                self.assertEqual(solve(table.joined(other))[0], "ring")
                joined += 1
        self.assertGreater(joined, 50)

    def test_a_ring_of_the_joined_table_by_its_looks(self):
        for table, ring in drawn_rings(223, 80):
            looks = table.looks()
            first = Table(table.divisors, looks[:1], [word[:1] for word in table.words()])
            other = Table(table.divisors, looks[1:], [word[1:] for word in table.words()])
            self.assertEqual(first.joined(other), table)
            kept = {look for number, look, count in ring} <= set(looks[1:])
            self.assertIs(is_ring(other, ring), kept)
            # One look alone never has a ring.
            self.assertEqual(solve(first)[0], "scan")

    def test_refined_tables(self):
        source = random.Random(224)
        kinds = []
        for _ in range(150):
            divisors = source.choice(all_divisors(6))
            finer = source.choice([finer for finer in all_divisors(12) if len(finer) == len(divisors)
                                   and not any(a % b for a, b in zip(finer, divisors))])
            looks = random_looks(source, len(divisors), source.randint(2, 4), 4)
            table = Table(divisors, looks, random_words(source, divisors, looks))
            kind, found = solve(table)
            fine_kind, fine_found = solve(table.refined(finer))
            self.assertEqual(kind, fine_kind)
            kinds.append(kind)
            if kind == "ring":
                self.assertIs(is_ring(table, found), True)
                self.assertIs(is_ring(table.refined(finer), fine_found), True)
        self.assertGreater(kinds.count("scan"), 20)
        self.assertGreater(kinds.count("ring"), 20)


if __name__ == "__main__":
    unittest.main()

"""Waves and chains: the fewest steps in which a box is filled as the scan fills it."""

import random
import unittest

from lookscan.errors import InvalidBox, InvalidLooks, InvalidPlace, TooManyCells
from lookscan.makers import blocks_scan, keys_scan, rows_scan, snake_scan
from lookscan.scans import Scan
from lookscan.waves import chain_waves, wave_chain, wave_count, waves
from tests.checks import ScanCase
from tests.reference import HUGE, all_forms, before, cells_of, minus, plus, random_box, random_looks, random_places
from tests.test_places import NO_BOXES, NO_PLACES
from tests.test_tables import WRONG_LOOKS

ALL = [waves, wave_count, wave_chain]


def pairs(looks, box):
    """All (cell, neighbour) in the box."""
    inside = set(cells_of(box))
    return [(cell, plus(cell, look)) for cell in inside for look in looks if plus(cell, look) in inside]


def earliest(scan, looks, box):
    """The earliest wave of each cell: the least numbers that all pairs allow, found by raising them one by one."""
    wave = {cell: 0 for cell in cells_of(box)}
    asked = [(cell, neighbour, before(scan, neighbour, cell)) for cell, neighbour in pairs(looks, box)]
    changed = True
    while changed:
        changed = False
        for cell, neighbour, filled in asked:
            if filled and wave[cell] <= wave[neighbour]:
                wave[cell] = wave[neighbour] + 1
                changed = True
            if not filled and wave[neighbour] < wave[cell]:
                wave[neighbour] = wave[cell]
                changed = True
    return wave


def listed(wave):
    count = max(wave.values(), default=-1) + 1
    return [sorted(cell for cell in wave if wave[cell] == number) for number in range(count)]


def chain_needs(scan, looks, chain):
    """What [14] says of a list of places: None, or how many waves it needs."""
    needed = 1 if chain else 0
    for one, other in zip(chain, chain[1:]):
        sees = any(plus(other, look) == one for look in looks)
        seen = any(plus(one, look) == other for look in looks)
        if not (sees or seen) or not before(scan, one, other):
            return None
        needed += sees
    return needed


class WavesCase(ScanCase):
    def assert_waves(self, scan, looks, box):
        wanted = listed(earliest(scan, looks, box))
        self.assertEqual(waves(scan, looks, box), wanted)
        self.assertEqual(wave_count(scan, looks, box), len(wanted))
        chain = wave_chain(scan, looks, box)
        self.assertIs(type(chain), list)
        self.assertEqual(chain_needs(scan, looks, chain), len(wanted))
        self.assertEqual(chain_waves(scan, looks, chain), len(wanted))
        self.assertLessEqual(set(chain), set(cells_of(box)))
        return wanted


class DrawnWavesTest(WavesCase):
    def test_scans_of_all_forms(self):
        source = random.Random(301)
        counts = []
        for at, scan in enumerate(all_forms(Scan, source, 250)):
            looks = random_looks(source, scan.directions, at % 4 + 1, source.choice([1, 2, 3]) if scan.directions > 1
                                 else 4)
            counts.append(len(self.assert_waves(scan, looks, random_box(source, scan.directions))))
        self.assertGreater(len(set(counts)), 8)

    def test_each_cell_in_one_wave_and_sees_as_the_scan_does(self):
        source = random.Random(302)
        for at, scan in enumerate(all_forms(Scan, source, 100)):
            looks = random_looks(source, scan.directions, at % 4 + 1, 3)
            box = random_box(source, scan.directions)
            found = waves(scan, looks, box)
            self.assertEqual(sorted(cell for wave in found for cell in wave), cells_of(box))
            for wave in found:
                self.assertEqual(wave, sorted(wave))
                self.assertNotEqual(wave, [])
            number = {cell: at for at, wave in enumerate(found) for cell in wave}
            for cell, neighbour in pairs(looks, box):
                self.assertIs(number[neighbour] < number[cell], scan(neighbour, cell))

    def test_made_scans(self):
        for scan in [rows_scan(2), snake_scan(2), snake_scan(2).turned(), blocks_scan((2, 3)),
                     keys_scan(2, ((1, 1), 0, 2)), rows_scan(2).slanted(((1, 2), (0, 1)))]:
            for looks in [[(1, 0), (0, 1)], [(-1, 0), (0, -1)], [(1, 0), (-1, 0), (0, 1), (0, -1)],
                          [(1, 1), (1, -1), (-1, 2)]]:
                self.assert_waves(scan, looks, (5, 7))

    def test_looks_and_their_opposites(self):
        source = random.Random(303)
        for scan in all_forms(Scan, source, 60):
            look = random_looks(source, scan.directions, 1, 2)[0]
            self.assert_waves(scan, [look, minus(look)], random_box(source, scan.directions))
            self.assert_waves(scan, [minus(look), look], random_box(source, scan.directions))

    def test_the_opposite_scan(self):
        # Seen the other way round, the waves of the looks backwards are as many.
        source = random.Random(304)
        for scan in all_forms(Scan, source, 60, most=6):
            looks = random_looks(source, scan.directions, 2, 3)
            box = random_box(source, scan.directions, 40)
            back = [minus(look) for look in looks]
            self.assertEqual(wave_count(scan.turned(), back, box), wave_count(scan, looks, box))


class SmallWavesTest(WavesCase):
    def test_rows(self):
        rows = rows_scan(2)
        self.assertEqual(waves(rows, [(-1, 0), (0, -1)], (2, 3)),
                         [[(0, 0)], [(0, 1), (1, 0)], [(0, 2), (1, 1)], [(1, 2)]])
        # A neighbour that is filled later must only not be filled earlier: one wave for all.
        self.assertEqual(waves(rows, [(1, 0), (0, 1)], (2, 3)), [cells_of((2, 3))])
        self.assertEqual(waves(rows, [(-1, 0)], (2, 3)), [[(0, 0), (0, 1), (0, 2)], [(1, 0), (1, 1), (1, 2)]])

    def test_a_cell_that_waits_for_one_that_looks_at_it(self):
        # (0, 1) waits for (0, 0); it sees (1, 0) as unfilled, so (1, 0) waits with it, though it sees no cell itself.
        self.assertEqual(waves(rows_scan(2), [(0, -1), (1, -1)], (2, 2)), [[(0, 0)], [(0, 1), (1, 0)], [(1, 1)]])
        self.assertEqual(waves(rows_scan(2), [(0, -1)], (2, 2)), [[(0, 0), (1, 0)], [(0, 1), (1, 1)]])
        self.assertEqual(waves(rows_scan(1), [(-3,), (1,)], (8,)), [[(0,), (1,), (2,)], [(3,), (4,), (5,)], [(6,), (7,)]])
        forked = Scan((2,), ("fork", (((0,), ("places",)), ((1,), ("places",)))))
        self.assertEqual(waves(forked, [(1,)], (5,)), [[(0,), (2,), (4,)], [(1,), (3,)]])

    def test_boxes_without_cells(self):
        for scan, looks, box in [(rows_scan(1), [(1,)], (0,)), (snake_scan(2), [(1, 0)], (0, HUGE)),
                                 (snake_scan(2), [(1, 0)], (HUGE, 0)), (rows_scan(3), [(1, 0, 0)], (HUGE, 0, HUGE))]:
            self.assertEqual(waves(scan, looks, box), [])
            self.assertEqual(wave_count(scan, looks, box), 0)
            self.assertEqual(wave_chain(scan, looks, box), [])

    def test_one_cell(self):
        for box in [(1,), (1, 1), (1, 1, 1)]:
            look = (1,) + (0,) * (len(box) - 1)
            self.assertEqual(waves(rows_scan(len(box)), [look], box), [[(0,) * len(box)]])
            self.assertEqual(wave_chain(rows_scan(len(box)), [look], box), [(0,) * len(box)])

    def test_no_neighbours_in_the_box(self):
        self.assertEqual(waves(snake_scan(2), [(9, 9), (-9, 0)], (9, 9)), [cells_of((9, 9))])
        self.assertEqual(wave_count(snake_scan(2), [(9, 9), (-9, 0)], (10, 9)), 2)

    def test_a_wider_box_needs_no_fewer_waves(self):
        source = random.Random(311)
        for scan in all_forms(Scan, source, 60):
            looks = random_looks(source, scan.directions, 3 if scan.directions > 1 else 2, 3)
            box = random_box(source, scan.directions, 30)
            wider = tuple(side + source.randint(0, 2) for side in box)
            self.assertGreaterEqual(wave_count(scan, looks, wider), wave_count(scan, looks, box))

    def test_2000_cells(self):
        self.assertEqual(wave_count(rows_scan(1), [(-1,)], (2000,)), 2000)
        self.assertEqual(waves(rows_scan(1), [(-1,)], (2000,)), [[(at,)] for at in range(2000)])
        self.assertEqual(wave_chain(rows_scan(1), [(-1,)], (2000,)), [(at,) for at in range(2000)])
        self.assertEqual(wave_count(rows_scan(1), [(1,)], (2000,)), 1)
        self.assertEqual(wave_count(snake_scan(2), [(-1, 0), (0, -1), (0, 1), (-1, 1)], (40, 50)), 2000)
        looks = [(-1, 0, 0), (0, -1, 0), (0, 0, -1)]
        self.assertEqual(wave_count(rows_scan(3), looks, (10, 10, 20)), 38)
        self.assertEqual(chain_waves(rows_scan(3), looks, wave_chain(rows_scan(3), looks, (10, 10, 20))), 38)

    def test_large_numbers(self):
        far = Scan((2,), ("key", (HUGE,), (-HUGE, HUGE), ("places",)))
        self.assert_waves(far, [(1,), (-3,)], (30,))


class WavesErrorsTest(ScanCase):
    def test_errors_in_order(self):
        scan = snake_scan(2)
        for call in ALL:
            for looks, index in WRONG_LOOKS:
                self.assert_error(InvalidLooks, call, scan, looks, (3, 3), index=index)
            for box in [*NO_BOXES, (3,), (3, 3, 3)]:
                self.assert_error(InvalidBox, call, scan, [(1, 0)], box, given=box)
                self.assert_error(InvalidLooks, call, scan, [(1, 0), (0, 0)], box, index=1)
            for box in [(2001, 1), (45, 45), (HUGE, HUGE), (1, 2001)]:
                self.assert_error(TooManyCells, call, scan, [(1, 0)], box, limit=2000)
                self.assert_error(InvalidLooks, call, scan, [], box, index=0)

    def test_new_lists_and_arguments(self):
        scan, looks = rows_scan(2), [(-1, 0), (0, -1)]
        found = waves(scan, looks, (2, 2))
        found[0].clear()
        found.clear()
        wave_chain(scan, looks, (2, 2)).clear()
        self.assertEqual(waves(scan, looks, (2, 2)), [[(0, 0)], [(0, 1), (1, 0)], [(1, 1)]])
        self.assertEqual(len(wave_chain(scan, looks, (2, 2))), 3)
        self.assertEqual(looks, [(-1, 0), (0, -1)])
        self.assertEqual(waves(scan, tuple(looks), (2, 2)), waves(scan, looks, (2, 2)))

    def test_by_name(self):
        scan, looks, box = rows_scan(2), [(-1, 0)], (2, 1)
        self.assertEqual(waves(box=box, looks=looks, scan=scan), [[(0, 0)], [(1, 0)]])
        self.assertEqual(wave_count(box=box, looks=looks, scan=scan), 2)
        self.assertEqual(wave_chain(box=box, looks=looks, scan=scan), [(0, 0), (1, 0)])
        self.assertEqual(chain_waves(chain=[(0, 0), (1, 0)], looks=looks, scan=scan), 2)


class ChainsTest(ScanCase):
    def test_small_chains(self):
        rows = rows_scan(1)
        for looks, chain, wanted in [
            ([(1,)], [], 0), ([(1,)], [(5,)], 1), ([(1,)], [(-HUGE,)], 1),
            # The next one is seen, but does not see: both may be in one wave.
            ([(1,)], [(0,), (1,)], 1), ([(-1,)], [(0,), (1,)], 2), ([(1,), (-1,)], [(0,), (1,)], 2),
            ([(1,)], [(1,), (0,)], None), ([(1,)], [(0,), (2,)], None), ([(1,)], [(0,), (0,)], None),
            ([(1,), (-2,)], [(0,), (1,), (3,), (4,), (6,)], 3), ([(1,), (-2,)], [(0,), (1,), (3,), (2,)], None),
            ([(1,), (-2,)], [(0,), (3,), (4,)], None), ([(2,)], [(-5,), (-3,), (-1,), (1,)], 1),
            ([(-2,)], [(-5,), (-3,), (-1,), (1,)], 4), ([(-9,)], [(-HUGE,), (9 - HUGE,), (18 - HUGE,)], 3),
        ]:
            self.assertEqual(chain_waves(rows, looks, chain), wanted)
            self.assertEqual(chain_waves(rows, looks, tuple(chain)), wanted)

    def test_drawn_walks_and_changes(self):
        source = random.Random(321)
        counts = []
        for scan in all_forms(Scan, source, 150):
            looks = random_looks(source, scan.directions, source.randint(1, 4), 3) if scan.directions > 1 \
                else random_looks(source, 1, source.randint(1, 4), 4)
            chain = self.walk(source, scan, looks)
            counts.append(chain_waves(scan, looks, chain))
            self.assertEqual(counts[-1], chain_needs(scan, looks, chain))
            for _ in range(6):
                changed = self.changed(source, chain, scan.directions)
                self.assertEqual(chain_waves(scan, looks, changed), chain_needs(scan, looks, changed))
                counts.append(chain_waves(scan, looks, changed))
        self.assertGreater(counts.count(None), 200)
        self.assertGreater(len(counts) - counts.count(None), 200)
        self.assertGreater(max(count for count in counts if count is not None), 4)

    @staticmethod
    def walk(source, scan, looks):
        """A chain that begins anywhere, also far away, and goes on to later places."""
        chain = [random_places(source, scan.directions, source.choice([3, HUGE]))]
        for _ in range(source.randint(0, 9)):
            near = [plus(chain[-1], look) for look in looks] + [plus(chain[-1], minus(look)) for look in looks]
            later = [place for place in near if before(scan, chain[-1], place)]
            if later:
                chain.append(source.choice(later))
        return chain

    @staticmethod
    def changed(source, chain, directions):
        found = list(chain)
        at, other = source.randrange(len(found)), source.randrange(len(found))
        choice = source.randrange(5)
        if choice == 0:
            del found[at]
        elif choice == 1:
            found.insert(at, found[other])
        elif choice == 2:
            found[at], found[other] = found[other], found[at]
        elif choice == 3:
            found[at] = plus(found[at], random_places(source, directions, 1))
        else:
            far = random_places(source, directions, HUGE)
            found = [plus(place, far) for place in found]
        return found

    def test_all_chains_of_small_boxes(self):
        source = random.Random(322)
        for scan in all_forms(Scan, source, 60, most=4):
            looks = random_looks(source, scan.directions, 2, 2)
            box = {1: (9,), 2: (2, 4), 3: (2, 2, 2)}[scan.directions]
            waiting = [[cell] for cell in cells_of(box)]
            best = 0
            while waiting:
                chain = waiting.pop()
                needed = chain_waves(scan, looks, chain)
                if needed is not None:
                    best = max(best, needed)
                    waiting.extend(chain + [cell] for cell in cells_of(box) if cell not in chain)
            self.assertEqual(best, wave_count(scan, looks, box))

    def test_errors(self):
        scan = snake_scan(2)
        for looks, index in WRONG_LOOKS:
            self.assert_error(InvalidLooks, chain_waves, scan, looks, [(0, 0)], index=index)
            self.assert_error(InvalidLooks, chain_waves, scan, looks, [None], index=index)
        for place in NO_PLACES:
            self.assert_error(InvalidPlace, chain_waves, scan, [(1, 0)], [place], given=place)
            self.assert_error(InvalidPlace, chain_waves, scan, [(1, 0)], [(0, 0), (1, 0), place, None], given=place)
            # The list is no chain, either: the error comes first.
            self.assert_error(InvalidPlace, chain_waves, scan, [(1, 0)], [(0, 0), (5, 5), (0, 0), place], given=place)

    def test_the_list_is_not_changed(self):
        chain = [(0, 0), (1, 0)]
        chain_waves(rows_scan(2), [(1, 0)], chain)
        self.assertEqual(chain, [(0, 0), (1, 0)])

    def test_a_long_chain(self):
        chain = [(at, -at) for at in range(-1500, 1500)]
        self.assertEqual(chain_waves(rows_scan(2), [(-1, 1)], chain), 3000)
        self.assertEqual(chain_waves(rows_scan(2), [(1, -1)], chain), 1)
        self.assertIsNone(chain_waves(rows_scan(2), [(1, -1)], chain[::-1]))


if __name__ == "__main__":
    unittest.main()

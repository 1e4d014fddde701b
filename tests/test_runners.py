"""Runners: steps forth and back, one cell or one wave at a time."""

import random
import unittest

from lookscan.errors import InvalidBox, InvalidCount, InvalidLooks, InvalidRule, InvalidValues, NothingLeft, TooManyCells
from lookscan.fills import fill
from lookscan.makers import rows_scan, snake_scan
from lookscan.runners import Runner, WaveRunner
from lookscan.scans import Scan
from lookscan.waves import waves
from tests.checks import ScanCase
from tests.reference import HUGE, all_forms, cells_of, new_value, random_box, random_looks, random_rule, random_values
from tests.test_fills import RULE, WRONG_RULES, WRONG_VALUES
from tests.test_places import NO_BOXES
from tests.test_tables import WRONG_LOOKS

BOTH = [Runner, WaveRunner]
LOOKS = [(0, -1), (-1, 0)]
WRONG_COUNTS = [None, True, False, "1", "", (), (1,), -1, -HUGE, HUGE]


def small(runner_class):
    return runner_class(rows_scan(2), LOOKS, (2, 2), (10, 1, (1, 1), 0, 0), [1, 2, 3, 4])


def plan_of(runner_class, scan, looks, box):
    return waves(scan, looks, box) if runner_class is WaveRunner else [[cell] for cell in scan.order(box)]


def states(looks, box, rule, begun, plan):
    """The values at each position, by taking the steps of a plan one by one."""
    standing = dict(zip(cells_of(box), begun))
    found = [list(standing.values())]
    for chosen in plan:
        standing.update({cell: new_value(looks, rule, standing, cell) for cell in chosen})
        found.append(list(standing.values()))
    return found


class StepsTest(ScanCase):
    def test_small_steps(self):
        runner = small(Runner)
        self.assertEqual([runner.step() for _ in range(4)], [[(0, 0)], [(0, 1)], [(1, 0)], [(1, 1)]])
        self.assertEqual(runner.all_values(), [1, 3, 4, 1])
        self.assertEqual(runner.back(), [(1, 1)])
        self.assertEqual(runner.all_values(), [1, 3, 4, 4])
        runner = small(WaveRunner)
        self.assertEqual([runner.step() for _ in range(3)], [[(0, 0)], [(0, 1), (1, 0)], [(1, 1)]])
        self.assertEqual(runner.all_values(), [1, 3, 4, 1])
        self.assertEqual([runner.back(), runner.back()], [[(1, 1)], [(0, 1), (1, 0)]])
        self.assertEqual(runner.all_values(), [1, 2, 3, 4])

    def test_drawn_walks(self):
        source = random.Random(501)
        for at, scan in enumerate(all_forms(Scan, source, 80)):
            looks = random_looks(source, scan.directions, at % 4 + 1, 2) if scan.directions > 1 \
                else random_looks(source, 1, at % 4 + 1, 4)
            box = random_box(source, scan.directions, 20)
            rule = random_rule(source, looks)
            begun = random_values(source, rule, box)
            for runner_class in BOTH:
                plan = plan_of(runner_class, scan, looks, box)
                runner = runner_class(scan, looks, box, rule, begun)
                self.assert_walk(source, runner, plan, states(looks, box, rule, begun, plan), rule)
                runner.position = len(plan)
                self.assertEqual(runner.all_values(), fill(scan, looks, box, rule, begun))

    def assert_walk(self, source, runner, plan, wanted, rule):
        at = 0
        self.assertEqual(len(runner), len(plan))
        for _ in range(25):
            choice = source.randrange(4)
            if choice == 0 and at < len(plan):
                self.assertEqual(runner.step(), plan[at])
                at += 1
            elif choice == 1 and at > 0:
                at -= 1
                self.assertEqual(runner.back(), plan[at])
            elif choice == 2:
                at = source.randint(0, len(plan))
                self.assertIsNone(runner.move_to(at))
            elif choice == 3:
                at = source.randint(0, len(plan))
                runner.position = at
            self.assertEqual(runner.position, at)
            self.assertEqual(runner.all_values(), wanted[at])
            self.assertEqual(list(runner.remaining()), [cell for chosen in plan[at:] for cell in chosen])
            self.assertEqual([runner.value(cell) for cell in sorted(cell for chosen in plan for cell in chosen)], wanted[at])

    def test_nothing_left(self):
        for runner_class in BOTH:
            runner = small(runner_class)
            self.assert_error(NothingLeft, runner.back)
            self.assertEqual((runner.position, runner.all_values()), (0, [1, 2, 3, 4]))
            runner.position = len(runner)
            values = runner.all_values()
            self.assert_error(NothingLeft, runner.step)
            self.assertEqual((runner.position, runner.all_values()), (len(runner), values))
            runner.back()
            self.assertEqual(runner.position, len(runner) - 1)
            self.assertEqual(runner.step(), [(1, 1)])
            self.assertEqual(runner.all_values(), values)

    def test_a_step_that_is_taken_back_and_taken_again(self):
        # What the cells had before comes back, also where the rule forgets it.
        for runner_class in BOTH:
            runner = runner_class(rows_scan(1), [(1,)], (3,), (10, 0, (0,), 7, 0), [1, 2, 3])
            runner.position = len(runner)
            self.assertEqual(runner.all_values(), [7, 7, 7])
            runner.position = 0
            self.assertEqual(runner.all_values(), [1, 2, 3])
            runner.move_to(count=len(runner))
            self.assertEqual(runner.all_values(), [7, 7, 7])

    def test_boxes_without_cells(self):
        for runner_class in BOTH:
            runner = runner_class(snake_scan(2), LOOKS, (0, HUGE), (10, 1, (1, 1), 0, 5), [])
            self.assertEqual((len(runner), runner.position, runner.all_values()), (0, 0, []))
            self.assertEqual(list(runner.remaining()), [])
            self.assert_error(NothingLeft, runner.step)
            self.assert_error(NothingLeft, runner.back)
            runner.position = 0
            self.assert_error(InvalidCount, runner.move_to, 1, given=1)
            self.assertEqual(runner.value((0, 0)), 5)
            self.assertFalse((0, 0) in runner)

    def test_2000_cells(self):
        for runner_class in BOTH:
            runner = runner_class(rows_scan(1), [(-1,)], (2000,), (1000000, 1, (1,), 0, 0), [1] * 2000)
            runner.position = 2000
            self.assertEqual(runner.all_values(), list(range(1, 2001)))
            runner.position = 1000
            self.assertEqual(runner.all_values(), list(range(1, 1001)) + [1] * 1000)
            twin = runner.twin()
            twin.position = 0
            self.assertEqual(twin.all_values(), [1] * 2000)
            self.assertEqual(runner.position, 1000)


class PositionTest(ScanCase):
    def test_invalid_counts(self):
        for runner_class in BOTH:
            runner = small(runner_class)
            for at in range(len(runner) + 1):
                runner.position = at
                values = runner.all_values()
                for count in [*WRONG_COUNTS, len(runner) + 1]:
                    self.assert_error(InvalidCount, runner.move_to, count, given=count)
                    self.assert_error(InvalidCount, lambda: setattr(runner, "position", count), given=count)
                    self.assertEqual((runner.position, runner.all_values()), (at, values))

    def test_every_position_from_every_other_one(self):
        for runner_class in BOTH:
            fresh = small(runner_class)
            wanted = [fresh.all_values()]
            while fresh.position < len(fresh):
                fresh.step()
                wanted.append(fresh.all_values())
            runner = small(runner_class)
            for one in range(len(wanted)):
                for other in range(len(wanted)):
                    runner.position = one
                    runner.position = other
                    self.assertEqual((runner.position, runner.all_values()), (other, wanted[other]))
                    self.assertIs(type(runner.position), int)

    def test_position_that_is_added_to(self):
        runner = small(Runner)
        runner.position += 3
        runner.position -= 1
        self.assertEqual(runner.position, 2)


class QueriesTest(ScanCase):
    def test_values_in_and_outside_of_the_box(self):
        for runner_class in BOTH:
            for edge in (0, -3, 12, HUGE, -HUGE):
                runner = runner_class(snake_scan(2), LOOKS, (2, 3), (10, 1, (0, 0), 1, edge), [0, 1, 2, 3, 4, 5])
                for position in (0, len(runner)):
                    runner.position = position
                    values = runner.all_values()
                    self.assertEqual([runner.value(cell) for cell in cells_of((2, 3))], values)
                    for place in [(-1, 0), (0, -1), (2, 0), (0, 3), (HUGE, 0), (-HUGE, HUGE), (2, 3)]:
                        self.assertEqual(runner.value(place), edge)
                        self.assertEqual(runner.value(cell=place), edge)

    def test_in(self):
        for runner_class in BOTH:
            runner = runner_class(snake_scan(2), LOOKS, (2, 3), RULE, [0] * 6)
            for cell in cells_of((2, 3)):
                self.assertIs(cell in runner, True)
            for place in [(-1, 0), (0, -1), (2, 0), (0, 3), (HUGE, 0), (2, 3), (3, 2)]:
                self.assertIs(place in runner, False)
                self.assertIs(place not in runner, True)
            for value in [(0,), (0, 0, 0), (True, 0), (0, False), None, "", (), ("0", 0)]:
                self.assertIs(value in runner, False)

    def test_remaining_is_lazy_and_takes_no_step(self):
        for runner_class in BOTH:
            runner = small(runner_class)
            found = runner.remaining()
            self.assertIs(iter(found), found)
            self.assertEqual(next(found), (0, 0))
            self.assertEqual(list(found), [(0, 1), (1, 0), (1, 1)])
            self.assertEqual(runner.position, 0)
            runner.step()
            self.assertEqual(list(runner.remaining()), [(0, 1), (1, 0), (1, 1)])

    def test_subclass(self):
        self.assertTrue(issubclass(WaveRunner, Runner))
        self.assertIsInstance(small(WaveRunner), Runner)
        for name in ["step", "back", "position", "move_to", "all_values", "value", "remaining", "twin", "__len__",
                     "__contains__"]:
            self.assertIn(name, vars(Runner))


class TwinTest(ScanCase):
    def test_twins_at_any_position(self):
        source = random.Random(511)
        for scan in all_forms(Scan, source, 25):
            looks = random_looks(source, scan.directions, 2, 2)
            box = random_box(source, scan.directions, 15)
            rule = random_rule(source, looks)
            begun = random_values(source, rule, box)
            for runner_class in BOTH:
                plan = plan_of(runner_class, scan, looks, box)
                wanted = states(looks, box, rule, begun, plan)
                for at in range(len(plan) + 1):
                    runner = runner_class(scan, looks, box, rule, begun)
                    runner.position = at
                    self.assert_twin(runner, runner_class, at, plan, wanted)

    def assert_twin(self, runner, runner_class, at, plan, wanted):
        twin = runner.twin()
        self.assertIs(type(twin), runner_class)
        self.assertEqual((twin.position, twin.all_values(), len(twin)), (at, wanted[at], len(plan)))
        for number in range(at - 1, -1, -1):
            self.assertEqual(twin.back(), plan[number])
            self.assertEqual(twin.all_values(), wanted[number])
        self.assertEqual((runner.position, runner.all_values()), (at, wanted[at]))
        twin.position = at
        for number in range(at, len(plan)):
            self.assertEqual(runner.step(), plan[number])
            self.assertEqual(runner.all_values(), wanted[number + 1])
        self.assertEqual((twin.position, twin.all_values()), (at, wanted[at]))
        self.assertEqual(twin.twin().all_values(), wanted[at])


class CopiesTest(ScanCase):
    def test_lists_that_were_passed_may_change_later(self):
        for runner_class in BOTH:
            looks, begun = list(LOOKS), [1, 2, 3, 4]
            runner = runner_class(rows_scan(2), looks, (2, 2), (10, 1, (1, 1), 0, 0), begun)
            looks.clear()
            begun[0] = 9
            begun.clear()
            twin = runner.twin()
            for one in (runner, twin, twin.twin()):
                self.assertEqual(one.all_values(), [1, 2, 3, 4])
                one.position = len(one)
                self.assertEqual(one.all_values(), [1, 3, 4, 1])

    def test_lists_that_were_returned_may_change_later(self):
        for runner_class in BOTH:
            runner = small(runner_class)
            runner.all_values().clear()
            for _ in range(len(runner)):
                runner.step().clear()
            runner.all_values()[0] = 100
            self.assertEqual(runner.all_values(), [1, 3, 4, 1])
            runner.back().append((5, 5))
            runner.back().clear()
            self.assertEqual(runner.step(), plan_of(runner_class, rows_scan(2), LOOKS, (2, 2))[-2])
            runner.position = len(runner)
            self.assertEqual(runner.all_values(), [1, 3, 4, 1])

    def test_tuples_and_names(self):
        for runner_class in BOTH:
            runner = runner_class(begun=(1, 2, 3, 4), rule=(10, 1, (1, 1), 0, 0), box=(2, 2), looks=tuple(LOOKS),
                                  scan=rows_scan(2))
            runner.position = len(runner)
            self.assertEqual(runner.all_values(), [1, 3, 4, 1])


class RunnerErrorsTest(ScanCase):
    def test_errors_in_order(self):
        for call in BOTH:
            for looks, index in WRONG_LOOKS:
                self.assert_error(InvalidLooks, call, snake_scan(2), looks, None, (), [None], index=index)
            for box in [*NO_BOXES, (4,), (2, 2, 1)]:
                self.assert_error(InvalidBox, call, snake_scan(2), LOOKS, box, (), [None], given=box)
            self.assert_error(TooManyCells, call, snake_scan(2), LOOKS, (2001, 1), (), [None], limit=2000)
            for rule, index in WRONG_RULES:
                self.assert_error(InvalidRule, call, snake_scan(2), LOOKS, (2, 2), rule, [None], index=index)
            for begun, index in WRONG_VALUES:
                self.assert_error(InvalidValues, call, snake_scan(2), LOOKS, (2, 2), RULE, begun, index=index)


if __name__ == "__main__":
    unittest.main()

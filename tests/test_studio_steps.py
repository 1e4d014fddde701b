"""Steps with undo and redo, limits, kept comparisons, and twins of studios."""

import itertools
import random
import unittest

from lookscan.alike import alike_in, always_alike, unlike_boxes
from lookscan.errors import CapacityExceeded, InvalidBox, InvalidCommand, InvalidLimit, InvalidLooks, InvalidName, NothingLeft
from lookscan.errors import UnknownName, Unlike
from lookscan.scans import Scan
from lookscan.studio import Studio
from tests.checks import ScanCase
from tests.reference import HUGE, all_divisors, before, cells_of, plus, random_box, random_looks, random_scan
from tests.test_places import NO_BOXES
from tests.test_studio import COMMANDS, PLACES, SNAKE, filled, state
from tests.test_tables import WRONG_LOOKS

WRONG_LIMITS = [0, -1, 13, HUGE, -HUGE, True, False, None, "5", "", (5,), ()]
LOOKS = [(0, 1), (1, 0)]


class StepsTest(ScanCase):
    def test_undo_and_redo(self):
        studio = Studio()
        states = [state(studio)[:4]]
        for command in [*COMMANDS, ("change", "snake", (1, 2), PLACES), ("rename", "rows", "a"), ("drop", "tiles")]:
            studio.apply(command)
            states.append(state(studio)[:4])
        steps = len(states) - 1
        for count in range(steps, -1, -1):
            self.assertEqual((studio.history(), state(studio)[:4]), ((count, steps - count), states[count]))
            if count:
                self.assertIsNone(studio.undo())
        self.assert_error(NothingLeft, studio.undo)
        for count in range(steps + 1):
            self.assertEqual((studio.history(), state(studio)[:4]), ((count, steps - count), states[count]))
            if count < steps:
                self.assertIsNone(studio.redo())
        self.assert_error(NothingLeft, studio.redo)
        self.assertEqual(studio.history(), (steps, 0))

    def test_nothing_left(self):
        studio = Studio()
        self.assert_error(NothingLeft, studio.undo)
        self.assert_error(NothingLeft, studio.redo)
        self.assertEqual(studio.history(), (0, 0))

    def test_several_commands_are_one_step(self):
        studio = Studio()
        self.assertIsNone(studio.apply_all(*COMMANDS))
        self.assertEqual(studio.history(), (1, 0))
        studio.undo()
        self.assertEqual((len(studio), studio.history()), (0, (0, 1)))
        studio.redo()
        self.assertEqual(studio, filled(*COMMANDS))

    def test_no_command_is_a_step(self):
        studio = filled(*COMMANDS)
        studio.undo()
        studio.apply_all()
        self.assertEqual((studio.history(), len(studio)), ((1, 0), 0))
        self.assert_error(NothingLeft, studio.redo)
        studio.undo()
        self.assertEqual(studio.history(), (0, 1))

    def test_all_or_none(self):
        studio = filled(*COMMANDS)
        for wrong, error, fields in [(("turned", "", "rows"), InvalidName, {"name": ""}), (("drop", "x"), UnknownName, {"name": "x"}),
                                     (("drop",), InvalidCommand, {"first": "drop"})]:
            saved = state(studio)
            self.assert_error(error, studio.apply_all, ("turned", "new", "rows"), ("rename", "rows", "r"), wrong, **fields)
            self.assertEqual(state(studio), saved)
            self.assertNotIn("new", studio)

    def test_commands_build_on_those_before(self):
        studio = Studio(limit=1)
        studio.apply_all(("scan", "a", (1,), PLACES), ("rename", "a", "b"), ("drop", "b"), ("scan", "c", (1,), PLACES))
        self.assertEqual(studio.names(), ["c"])
        self.assert_error(UnknownName, studio.apply_all, ("rename", "c", "d"), ("drop", "c"), name="c")
        self.assertEqual(studio.names(), ["c"])

    def test_redo_until_another_step_is_made(self):
        studio = filled(*COMMANDS)
        studio.apply(("drop", "tiles"))
        studio.undo()
        # An error is no step.
        self.assert_error(UnknownName, studio.apply, ("drop", "x"), name="x")
        self.assert_error(InvalidCommand, studio.apply, (), first=None)
        self.assert_error(NothingLeft, lambda: [studio.undo() for _ in range(3)])
        self.assertEqual(studio.history(), (0, 2))
        studio.redo()
        studio.boxes("rows", "snake", LOOKS)
        studio.limit = 9
        studio.redo()
        self.assertNotIn("tiles", studio)
        studio.undo()
        studio.apply(("drop", "both"))
        self.assert_error(NothingLeft, studio.redo)
        self.assertIn("tiles", studio)

    def test_a_hundred_steps(self):
        studio = Studio()
        names = []
        for at in range(100):
            if at % 25 < 12:
                studio.apply(("scan", "n" + "abcdefghijklmnopqrstuvwxyz"[at % 25], (1,), PLACES))
            elif at % 25 < 24:
                studio.apply(("drop", studio.names()[0]))
            else:
                studio.apply_all()
            names.append(studio.names())
        self.assertEqual(studio.history(), (100, 0))
        for at in range(99, 0, -1):
            self.assertEqual(studio.names(), names[at])
            studio.undo()
        studio.undo()
        self.assertEqual((studio.names(), studio.history()), ([], (0, 100)))
        for at in range(100):
            studio.redo()
            self.assertEqual(studio.names(), names[at])


class LimitTest(ScanCase):
    def test_limits(self):
        self.assertEqual((Studio.MOST, Studio().limit), (12, 12))
        for limit in range(1, 13):
            studio = Studio(limit=limit)
            self.assertEqual(studio.limit, limit)
            for at in range(limit):
                studio.apply(("scan", "abcdefghijkl"[at], (1,), PLACES))
            self.assert_error(CapacityExceeded, studio.apply, ("scan", "m", (1,), PLACES), limit=limit)
            self.assertEqual(len(studio), limit)

    def test_invalid_limits(self):
        for limit in WRONG_LIMITS:
            self.assert_error(InvalidLimit, lambda: Studio(limit=limit), limit=limit)
            studio = Studio(limit=5)
            self.assert_error(InvalidLimit, studio.set_limit, limit, limit=limit)
            self.assert_error(InvalidLimit, lambda: setattr(studio, "limit", limit), limit=limit)
            self.assertEqual(studio.limit, 5)

    def test_less_than_the_number_of_names(self):
        studio = filled(*COMMANDS)
        for limit in range(1, 7):
            self.assert_error(InvalidLimit, studio.set_limit, limit, limit=limit)
            self.assert_error(InvalidLimit, lambda: setattr(studio, "limit", limit), limit=limit)
            self.assertEqual(studio.limit, 12)
        self.assertIsNone(studio.set_limit(7))
        self.assertEqual(studio.limit, 7)
        studio.limit = 8
        self.assertEqual(studio.limit, 8)

    def test_undo_and_redo_do_not_look_at_the_limit(self):
        studio = filled(*COMMANDS)
        studio.apply_all(("drop", "tiles"), ("drop", "oblique"), ("drop", "both"))
        studio.limit = 4
        studio.undo()
        self.assertEqual((len(studio), studio.limit), (7, 4))
        # There are more names than the limit allows.
        self.assert_error(CapacityExceeded, studio.apply, ("turned", "new", "no"), limit=4)
        self.assert_error(InvalidLimit, studio.set_limit, 6, limit=6)
        studio.apply(("rename", "tiles", "t"))
        studio.apply(("drop", "t"))
        self.assert_error(CapacityExceeded, studio.apply, ("turned", "new", "rows"), limit=4)
        self.assertEqual(len(studio), 6)

    def test_the_limit_is_not_part_of_the_steps(self):
        studio = filled(COMMANDS[0])
        studio.apply(COMMANDS[1])
        studio.limit = 3
        studio.undo()
        self.assertEqual(studio.limit, 3)
        studio.limit = 1
        studio.redo()
        self.assertEqual((studio.limit, len(studio)), (1, 2))
        self.assertEqual(studio.history(), (2, 0))


class ComparisonsTest(ScanCase):
    def test_boxes(self):
        source = random.Random(711)
        for _ in range(60):
            directions = source.randint(1, 3)
            choices = [divisors for divisors in all_divisors(6) if len(divisors) == directions]
            one, other = [random_scan(Scan, source, source.choice(choices)) for _ in range(2)]
            studio = filled(("scan", "a", one.divisors, one.tree), ("scan", "b", other.divisors, other.tree))
            looks = random_looks(source, directions, 2, 3)
            wanted = unlike_boxes(one, other, looks)
            for _ in range(2):
                self.assertEqual(studio.boxes("a", "b", looks), wanted)
                self.assertIs(studio.alike("a", "b", looks), always_alike(one, other, looks))
            box = random_box(source, directions, 50)
            self.assertIs(studio.alike("a", "b", looks, box=box), self.alike_by_force(one, other, looks, box))
            large = tuple(source.choice([0, 1, 2, HUGE]) for _ in range(directions))
            self.assertIs(studio.alike("a", "b", looks, box=large), alike_in(one, other, looks, large))
            self.assertEqual(studio.computed, 1)

    @staticmethod
    def alike_by_force(one, other, looks, box):
        inside = cells_of(box)
        return all(before(one, cell, plus(cell, look)) == before(other, cell, plus(cell, look))
                   for cell in inside for look in looks if plus(cell, look) in inside)

    def test_a_comparison_is_made_once(self):
        studio = filled(*COMMANDS)
        self.assertEqual((studio.kept(), studio.computed), ([], 0))
        calls = [lambda: studio.boxes("rows", "snake", LOOKS), lambda: studio.alike("rows", "snake", LOOKS),
                 lambda: studio.alike("rows", "snake", LOOKS, box=(1, 9)), lambda: studio.boxes("rows", "snake", tuple(LOOKS))]
        for call in calls:
            call()
            self.assertEqual((studio.kept(), studio.computed), ([("rows", "snake", ((0, 1), (1, 0)))], 1))
        for call in calls[1:3]:
            fresh = filled(*COMMANDS)
            studio = fresh
            call()
            self.assertEqual((studio.kept(), studio.computed), ([("rows", "snake", ((0, 1), (1, 0)))], 1))

    def test_names_and_looks_in_their_order(self):
        studio = filled(*COMMANDS)
        for count, (one, other, looks) in enumerate([("snake", "rows", LOOKS), ("rows", "snake", LOOKS),
                                                     ("rows", "snake", LOOKS[::-1]), ("rows", "snake", LOOKS[:1]),
                                                     ("rows", "rows", LOOKS), ("back", "tiles", LOOKS)]):
            studio.boxes(one, other, looks)
            self.assertEqual(studio.computed, count + 1)
        self.assertEqual(studio.kept(), [
            ("back", "tiles", ((0, 1), (1, 0))), ("rows", "rows", ((0, 1), (1, 0))), ("rows", "snake", ((0, 1),)),
            ("rows", "snake", ((0, 1), (1, 0))), ("rows", "snake", ((1, 0), (0, 1))), ("snake", "rows", ((0, 1), (1, 0)))])
        self.assertEqual(studio.boxes("rows", "rows", LOOKS), [])
        self.assertIs(studio.alike("rows", "rows", LOOKS), True)

    def test_new_lists(self):
        studio = filled(*COMMANDS)
        looks = list(LOOKS)
        studio.boxes("rows", "snake", looks).clear()
        looks.clear()
        self.assertEqual(studio.boxes("rows", "snake", LOOKS), [(2, 2)])
        self.assertEqual(studio.kept(), [("rows", "snake", ((0, 1), (1, 0)))])

    def test_which_stay_kept(self):
        studio = filled(*COMMANDS)
        for one, other in itertools.product(studio.names(), repeat=2):
            studio.boxes(one, other, [(0, 1)])
        self.assertEqual((len(studio.kept()), studio.computed), (49, 49))
        studio.apply(("change", "rows", (1, 1), ("key", (0, 1), (0,), PLACES)))
        gone = {"rows", "both"}
        self.assertEqual(studio.kept(), sorted((one, other, ((0, 1),)) for one in studio.names() for other in studio.names()
                                               if one not in gone and other not in gone))
        studio.undo()
        self.assertEqual(len(studio.kept()), 25)
        studio.boxes("rows", "snake", [(0, 1)])
        self.assertEqual((len(studio.kept()), studio.computed), (26, 50))
        studio.redo()
        self.assertEqual((len(studio.kept()), studio.computed), (25, 50))
        studio.apply(("drop", "tiles"))
        self.assertEqual(len(studio.kept()), 16)
        studio.apply(("rename", "moved", "m"))
        self.assertEqual({one for one, other, looks in studio.kept()}, {"snake", "back", "oblique"})
        self.assertEqual((len(studio.kept()), studio.computed), (9, 50))

    def test_equal_scans_stay_kept(self):
        studio = filled(*COMMANDS)
        studio.boxes("rows", "snake", LOOKS)
        kept = studio.kept()
        studio.apply(("change", "rows", (1, 1), PLACES))
        # What counts is how it is behind the step: the name is there again, with an equal scan.
        studio.apply_all(("rename", "rows", "x"), ("rename", "x", "rows"))
        studio.apply_all(("drop", "both"), ("drop", "rows"), ("scan", "rows", (1, 1), PLACES))
        studio.apply_all(("change", "snake", (1, 1), PLACES), ("change", "snake", SNAKE.divisors, SNAKE.tree))
        studio.apply_all()
        studio.undo()
        studio.redo()
        self.assertEqual((studio.kept(), studio.computed), (kept, 1))
        # Another definition of an equal scan keeps it, too.
        studio.apply_all(("drop", "rows"), ("scan", "base", (1, 1), PLACES), ("shifted", "rows", "base", (0, 0)))
        self.assertEqual(studio.kept(), kept)
        studio.apply_all(("drop", "rows"), ("turned", "rows", "base"))
        self.assertEqual((studio.kept(), studio.computed), ([], 1))

    def test_names_that_change_places(self):
        studio = filled(("scan", "a", (1,), PLACES), ("scan", "b", (1,), PLACES), ("turned", "c", "a"))
        studio.boxes("a", "b", [(1,)])
        studio.boxes("a", "c", [(1,)])
        studio.apply_all(("rename", "a", "x"), ("rename", "b", "a"), ("rename", "x", "b"))
        self.assertEqual([key[:2] for key in studio.kept()], [("a", "b"), ("a", "c")])
        studio.apply_all(("rename", "a", "x"), ("rename", "c", "a"), ("rename", "x", "c"))
        self.assertEqual(studio.kept(), [])

    def test_errors_in_order(self):
        studio = filled(*COMMANDS, ("scan", "line", (1,), PLACES))
        for call in (studio.boxes, studio.alike):
            self.assert_error(UnknownName, call, "no", "other", [], name="no")
            self.assert_error(UnknownName, call, "rows", "other", [], name="other")
            self.assert_error(UnknownName, call, "no", "rows", [], name="no")
            self.assert_error(UnknownName, call, "", "rows", [], name="")
            self.assert_error(Unlike, call, "rows", "line", [])
            self.assert_error(Unlike, call, "line", "rows", [(1,)])
            for looks, index in WRONG_LOOKS:
                self.assert_error(InvalidLooks, call, "rows", "snake", looks, index=index)
        for box in [box for box in NO_BOXES if box is not None] + [(2,), (2, 2, 2)]:
            self.assert_error(UnknownName, lambda: studio.alike("no", "rows", LOOKS, box=box), name="no")
            self.assert_error(Unlike, lambda: studio.alike("line", "rows", LOOKS, box=box))
            self.assert_error(InvalidLooks, lambda: studio.alike("rows", "snake", [], box=box), index=0)
            self.assert_error(InvalidBox, lambda: studio.alike("rows", "snake", LOOKS, box=box), given=box)
        self.assertEqual((studio.kept(), studio.computed), ([], 0))
        studio.boxes("rows", "snake", LOOKS)
        self.assert_error(InvalidBox, lambda: studio.alike("rows", "snake", LOOKS, box=(1,)), given=(1,))
        self.assertEqual(studio.computed, 1)

    def test_an_error_drops_nothing(self):
        studio = filled(*COMMANDS)
        studio.boxes("rows", "tiles", LOOKS)
        self.assert_error(UnknownName, studio.apply_all, ("drop", "tiles"), ("drop", "no"), name="no")
        self.assert_error(NothingLeft, studio.redo)
        self.assertEqual(len(studio.kept()), 1)

    def test_the_count_is_not_part_of_the_steps(self):
        studio = filled(*COMMANDS)
        studio.boxes("rows", "snake", LOOKS)
        studio.undo()
        self.assertEqual((studio.kept(), studio.computed), ([], 1))
        studio.redo()
        self.assertEqual((studio.kept(), studio.computed), ([], 1))
        studio.boxes("rows", "snake", LOOKS)
        self.assertEqual(studio.computed, 2)

    def test_a_box_with_a_side_0(self):
        studio = filled(*COMMANDS)
        self.assertIs(studio.alike("rows", "snake", LOOKS, box=(0, HUGE)), True)
        self.assertIs(studio.alike("rows", "snake", LOOKS, box=(HUGE, HUGE)), False)
        self.assertIs(studio.alike("rows", "snake", LOOKS, box=(1, HUGE)), True)
        self.assertIs(studio.alike("rows", "snake", LOOKS, box=None), False)


class TwinTest(ScanCase):
    def test_the_same_state(self):
        studio = filled(*COMMANDS, limit=9)
        studio.boxes("rows", "snake", LOOKS)
        studio.apply(("drop", "tiles"))
        studio.apply(("drop", "both"))
        studio.undo()
        twin = studio.twin()
        self.assertIs(type(twin), Studio)
        self.assertEqual(state(twin), state(studio))
        self.assertTrue(twin == studio)

    def test_each_goes_its_own_way(self):
        studio = filled(*COMMANDS)
        studio.boxes("rows", "snake", LOOKS)
        studio.apply(("drop", "tiles"))
        studio.undo()
        saved = state(studio)
        twin = studio.twin()
        twin.apply(("change", "rows", (1, 1), ("key", (0, 1), (0,), PLACES)))
        twin.boxes("rows", "back", LOOKS)
        twin.limit = 8
        self.assertEqual(state(studio), saved)
        changed = state(twin)
        studio.redo()
        studio.undo()
        studio.undo()
        self.assertEqual((len(studio), studio.kept()), (0, []))
        studio.limit = 1
        self.assertEqual(state(twin), changed)
        twin.undo()
        twin.undo()
        self.assertEqual((len(twin), twin.history()), (0, (0, 2)))

    def test_each_has_its_own_history(self):
        studio = filled(*COMMANDS)
        studio.apply(("drop", "tiles"))
        studio.apply(("drop", "both"))
        studio.undo()
        for one, other in [(studio, studio.twin()), (studio.twin(), studio)]:
            one.redo()
            self.assertEqual((one.history(), other.history()), ((3, 0), (2, 1)))
            one.undo()
            one.undo()
            self.assertEqual((one.history(), other.history()), ((1, 2), (2, 1)))
            one.redo()
            self.assertEqual(state(one), state(other))

    def test_more_names_than_the_limit(self):
        studio = filled(*COMMANDS)
        studio.undo()
        studio.limit = 1
        studio.redo()
        twin = studio.twin()
        self.assertEqual((len(twin), twin.limit), (7, 1))


if __name__ == "__main__":
    unittest.main()

"""Studios: names, definitions, and the commands with their errors in order."""

import random
import unittest

from lookscan.errors import Broken, CapacityExceeded, DuplicateName, InUse, InvalidBox, InvalidCommand, InvalidDivisors
from lookscan.errors import InvalidMatrix, InvalidName, InvalidPlace, InvalidTree, NotGiven, TooManyClasses, UnknownName
from lookscan.errors import Unlike
from lookscan.makers import blocks_scan, snake_scan
from lookscan.scans import Scan
from lookscan.studio import Studio
from tests.checks import ScanCase
from tests.model import Model, Refused, random_command, scan_of, uses
from tests.reference import keys

PLACES = ("places",)
SNAKE = snake_scan(2)
# Seven scans, one for each kind of definition, made of one another.
COMMANDS = [
    ("scan", "rows", (1, 1), PLACES),
    ("scan", "snake", SNAKE.divisors, SNAKE.tree),
    ("turned", "back", "snake"),
    ("then", "both", "rows", "back"),
    ("shifted", "moved", "snake", (1, -2)),
    ("slanted", "oblique", "moved", ((1, 1), (0, 1))),
    ("blocks", "tiles", "back", (2, 2)),
]
NO_NAMES = ["", "A", "Abc", "abcdefghi", "a1", "1", "a b", "a_", "-", " a", "a ", "a\n", "{", "`", ":", "aB"]


def filled(*commands, limit=12):
    studio = Studio(limit=limit)
    studio.apply_all(*commands)
    return studio


def state(studio):
    """All that can be asked of a studio."""
    names = studio.names()
    return (names, [studio.definition(name) for name in names], [studio.get(name) for name in names],
            [studio.users(name) for name in names], studio.history(), studio.limit, studio.kept(), studio.computed,
            studio.busy, len(studio), repr(studio))


class StudioCase(ScanCase):
    def assert_refused(self, error, studio, *commands, **fields):
        """The commands raise this error, and nothing changes by it."""
        before = state(studio)
        self.assert_error(error, studio.apply_all, *commands, **fields)
        self.assertEqual(state(studio), before)
        self.assertIs(studio.busy, False)
        if len(commands) == 1:
            self.assert_error(error, studio.apply, *commands, **fields)
            self.assertEqual(state(studio), before)


class AddingTest(StudioCase):
    def test_each_kind(self):
        studio = filled(*COMMANDS)
        self.assertEqual(studio.names(), ["rows", "snake", "back", "both", "moved", "oblique", "tiles"])
        rows, moved = Scan((1, 1)), SNAKE.shifted((1, -2))
        self.assertEqual([studio.get(name) for name in studio.names()],
                         [rows, SNAKE, SNAKE.turned(), rows.then(SNAKE.turned()), moved,
                          moved.slanted(((1, 1), (0, 1))), blocks_scan((2, 2), inner=SNAKE.turned())])
        self.assertEqual([studio.definition(name) for name in studio.names()], COMMANDS)
        self.assertEqual(len(studio), 7)
        self.assertEqual(repr(studio), "Studio(7 scans)")
        self.assertEqual((repr(Studio()), len(Studio())), ("Studio(0 scans)", 0))
        self.assertEqual(repr(filled(COMMANDS[0])), "Studio(1 scans)")

    def test_one_by_one(self):
        studio = Studio()
        for at, command in enumerate(COMMANDS):
            self.assertIsNone(studio.apply(command))
            self.assertEqual(studio.history(), (at + 1, 0))
        self.assertEqual(state(studio)[:4], state(filled(*COMMANDS))[:4])

    def test_names(self):
        for name in ["a", "z", "abcdefgh", "then", "scan", "zzzzzzzz"]:
            self.assertEqual(filled(("scan", name, (1,), PLACES)).names(), [name])
        for name in NO_NAMES:
            for command in [("scan", name, (1,), PLACES), ("turned", name, "rows"), ("then", name, "rows", "rows"),
                            ("shifted", name, "rows", (1, 1)), ("slanted", name, "rows", ((1, 0), (0, 1))),
                            ("blocks", name, "rows", (1, 1))]:
                self.assert_refused(InvalidName, filled(COMMANDS[0]), command, name=name)

    def test_errors_of_adding_in_order(self):
        studio = filled(*COMMANDS, limit=7)
        for kind, rest in [("scan", (None, None)), ("turned", ("no",)), ("then", ("no", "other")),
                           ("shifted", ("no", None)), ("slanted", ("no", None)), ("blocks", ("no", None))]:
            self.assert_refused(InvalidName, studio, (kind, "", *rest), name="")
            self.assert_refused(DuplicateName, studio, (kind, "tiles", *rest), name="tiles")
            self.assert_refused(CapacityExceeded, studio, (kind, "new", *rest), limit=7)
        studio.limit = 8
        for kind, rest in [("turned", ("no",)), ("then", ("no", "other")), ("then", ("rows", "no")),
                           ("then", ("no", "rows")), ("shifted", ("no", None)), ("slanted", ("no", None)),
                           ("blocks", ("no", None)), ("turned", ("new",))]:
            unknown = [name for name in rest if name is not None and name not in studio][0]
            self.assert_refused(UnknownName, studio, (kind, "new", *rest), name=unknown)

    def test_errors_of_making(self):
        studio = filled(*COMMANDS, ("scan", "line", (5,), PLACES), ("scan", "deep", (1, 1), keys(19, (1, 1))),
                        ("scan", "big", (4, 3), PLACES))
        for error, command, fields in [
            (InvalidDivisors, ("scan", "new", (0,), None), {}), (InvalidDivisors, ("scan", "new", None, PLACES), {}),
            (TooManyClasses, ("scan", "new", (13,), None), {"limit": 12}), (InvalidTree, ("scan", "new", (1,), None), {}),
            (InvalidTree, ("scan", "new", (1,), ("place",)), {}), (InvalidTree, ("turned", "new", "deep"), {}),
            (Unlike, ("then", "new", "rows", "line"), {}), (Unlike, ("then", "new", "line", "rows"), {}),
            (InvalidTree, ("then", "new", "deep", "back"), {}),
            (InvalidPlace, ("shifted", "new", "rows", (1,)), {"given": (1,)}),
            (InvalidPlace, ("shifted", "new", "rows", None), {"given": None}),
            (InvalidPlace, ("shifted", "new", "rows", (True, 1)), {"given": (True, 1)}),
            (InvalidMatrix, ("slanted", "new", "rows", ((2, 0), (0, 1))), {}),
            (InvalidMatrix, ("slanted", "new", "line", ((1, 0), (0, 1))), {}),
            (InvalidMatrix, ("slanted", "new", "rows", "x"), {}),
            (TooManyClasses, ("slanted", "new", "big", ((1, 1), (0, 1))), {"limit": 12}),
            (InvalidTree, ("slanted", "new", "deep", ((1, 0), (0, 1))), {}),
            (InvalidBox, ("blocks", "new", "rows", (0, 1)), {"given": (0, 1)}),
            (InvalidBox, ("blocks", "new", "rows", None), {"given": None}),
            (TooManyClasses, ("blocks", "new", "rows", (13, 1)), {"limit": 12}),
            (Unlike, ("blocks", "new", "rows", (2,)), {}), (TooManyClasses, ("blocks", "new", "line", (3,)), {"limit": 12}),
            (InvalidTree, ("blocks", "new", "deep", (2, 2)), {}),
        ]:
            self.assert_refused(error, studio, command, **fields)

    def test_a_name_twice_in_a_definition(self):
        studio = filled(COMMANDS[1], ("then", "b", "snake", "snake"))
        self.assertEqual(studio.get("b"), SNAKE.then(SNAKE))
        self.assertEqual(studio.users("snake"), ["b"])
        studio.apply(("rename", "snake", "s"))
        self.assertEqual(studio.definition("b"), ("then", "b", "s", "s"))


class InvalidCommandTest(StudioCase):
    def test_first_items_and_numbers_of_items(self):
        studio = filled(*COMMANDS)
        for command, first in [((), None), (("",), ""), (("what",), "what"), (("what", "a", (1,), PLACES), "what"),
                               (("Scan", "a", (1,), PLACES), "Scan"), (("undo",), "undo"), (("names",), "names"),
                               (("scan",), "scan"), (("scan", "a", (1,)), "scan"), (("scan", "a", (1,), PLACES, 1), "scan"),
                               (("turned", "a"), "turned"), (("turned", "a", "rows", "rows"), "turned"),
                               (("then", "a", "rows"), "then"), (("then", "a", "rows", "rows", "rows"), "then"),
                               (("shifted", "a", "rows"), "shifted"), (("slanted", "a", "rows"), "slanted"),
                               (("blocks", "a", "rows"), "blocks"), (("blocks", "a", "rows", (1, 1), None), "blocks"),
                               (("change", "rows", (1,)), "change"), (("rename", "rows"), "rename"),
                               (("rename", "rows", "a", "b"), "rename"), (("drop",), "drop"), (("drop", "a", "b"), "drop"),
                               (("turned", ""), "turned")]:
            self.assert_refused(InvalidCommand, studio, command, first=first)

    def test_before_everything_else(self):
        studio = filled(*COMMANDS)
        self.assert_refused(InvalidCommand, studio, ("drop", "no"), ("turned", "", "no"), ("drop",), (), first="drop")
        self.assert_refused(InvalidCommand, studio, ("turned", "new", "rows"), ("what",), first="what")
        self.assert_refused(InvalidCommand, studio, (), ("what",), first=None)


class ChangeTest(StudioCase):
    def test_all_that_use_it_change_with_it(self):
        studio = filled(*COMMANDS)
        tree = ("key", (1, -1), (0, 3), PLACES)
        studio.apply(("change", "snake", (1, 2), tree))
        new, rows = Scan((1, 2), tree), Scan((1, 1))
        moved = new.shifted((1, -2))
        self.assertEqual([studio.get(name) for name in studio.names()],
                         [rows, new, new.turned(), rows.then(new.turned()), moved, moved.slanted(((1, 1), (0, 1))),
                          blocks_scan((2, 2), inner=new.turned())])
        self.assertEqual(studio.definition("snake"), ("scan", "snake", (1, 2), tree))
        self.assertEqual([studio.definition(name) for name in studio.names() if name != "snake"],
                         [command for command in COMMANDS if command[1] != "snake"])

    def test_errors_in_order(self):
        studio = filled(*COMMANDS)
        self.assert_refused(UnknownName, studio, ("change", "no", None, None), name="no")
        self.assert_refused(UnknownName, studio, ("change", "", None, None), name="")
        for name in ["back", "both", "moved", "oblique", "tiles"]:
            self.assert_refused(NotGiven, studio, ("change", name, None, None), name=name)
        for name in ["rows", "snake"]:
            self.assert_refused(InvalidDivisors, studio, ("change", name, (0,), None))
            self.assert_refused(TooManyClasses, studio, ("change", name, (13,), None), limit=12)
            self.assert_refused(InvalidTree, studio, ("change", name, (1,), ("place",)))

    def test_broken_in_the_order_of_the_definitions(self):
        studio = filled(*COMMANDS)
        # With one direction, the opposite still can be made; both needs two scans of one kind.
        self.assert_refused(Broken, studio, ("change", "snake", (1,), PLACES), name="both")
        self.assert_refused(Broken, studio, ("change", "rows", (1,), PLACES), name="both")
        studio.apply(("drop", "both"))
        self.assert_refused(Broken, studio, ("change", "snake", (1,), PLACES), name="moved")
        studio.apply(("change", "rows", (1,), PLACES))
        studio.apply_all(("drop", "oblique"), ("drop", "moved"))
        self.assert_refused(Broken, studio, ("change", "snake", (1,), PLACES), name="tiles")
        studio.apply_all(("drop", "tiles"), ("change", "snake", (1,), PLACES))
        self.assertEqual(studio.get("back"), Scan((1,)).turned())

    def test_broken_by_the_order_not_by_the_names(self):
        studio = filled(("scan", "a", (1,), PLACES), ("shifted", "z", "a", (1,)), ("shifted", "b", "a", (1,)),
                        ("turned", "c", "b"))
        self.assert_refused(Broken, studio, ("change", "a", (1, 1), PLACES), name="z")
        studio.apply_all(("rename", "z", "y"), ("rename", "b", "x"))
        self.assert_refused(Broken, studio, ("change", "a", (1, 1), PLACES), name="y")

    def test_broken_by_classes_and_by_nodes(self):
        studio = filled(("scan", "a", (2, 2), PLACES), ("scan", "b", (1, 3), PLACES), ("then", "c", "a", "b"),
                        ("turned", "d", "c"))
        self.assert_refused(Broken, studio, ("change", "a", (3, 2), PLACES), name="c")
        self.assert_refused(Broken, studio, ("change", "a", (2, 2), keys(18, (2, 2))), name="d")
        studio.apply(("change", "a", (2, 2), keys(17, (2, 2))))
        self.assertEqual(studio.get("d"), studio.get("c").turned())

    def test_what_does_not_use_it_stays(self):
        studio = filled(*COMMANDS)
        before = [studio.get(name) for name in ("snake", "back", "moved", "oblique", "tiles")]
        studio.apply(("change", "rows", (2, 2), ("key", (0, 1), (0, 0, 1, 1), PLACES)))
        self.assertEqual([studio.get(name) for name in ("snake", "back", "moved", "oblique", "tiles")], before)
        self.assertEqual(studio.get("both"), studio.get("rows").then(studio.get("back")))

    def test_by_itself(self):
        studio = filled(*COMMANDS)
        studio.apply(("change", "rows", (1, 1), PLACES))
        self.assertEqual(studio, filled(*COMMANDS))
        self.assertEqual(studio.history(), (2, 0))


class RenameTest(StudioCase):
    def test_in_the_definitions_and_in_order(self):
        studio = filled(*COMMANDS)
        scans = [studio.get(name) for name in studio.names()]
        studio.apply(("rename", "snake", "a"))
        self.assertEqual(studio.names(), ["rows", "a", "back", "both", "moved", "oblique", "tiles"])
        self.assertEqual(studio.definition("a"), ("scan", "a", SNAKE.divisors, SNAKE.tree))
        self.assertEqual(studio.definition("back"), ("turned", "back", "a"))
        self.assertEqual(studio.definition("moved"), ("shifted", "moved", "a", (1, -2)))
        studio.apply_all(("rename", "back", "zz"), ("rename", "rows", "snake"))
        self.assertEqual(studio.names(), ["snake", "a", "zz", "both", "moved", "oblique", "tiles"])
        self.assertEqual(studio.definition("both"), ("then", "both", "snake", "zz"))
        self.assertEqual(studio.definition("tiles"), ("blocks", "tiles", "zz", (2, 2)))
        self.assertEqual([studio.get(name) for name in studio.names()], scans)
        self.assertEqual((studio.users("a"), studio.users("zz"), studio.users("snake")),
                         (["moved", "zz"], ["both", "tiles"], ["both"]))

    def test_names_like_the_words_of_commands(self):
        studio = filled(("scan", "turned", (1,), PLACES), ("turned", "then", "turned"), ("then", "scan", "then", "turned"))
        studio.apply_all(("rename", "turned", "a"), ("rename", "then", "b"), ("rename", "scan", "places"))
        self.assertEqual([studio.definition(name) for name in studio.names()],
                         [("scan", "a", (1,), PLACES), ("turned", "b", "a"), ("then", "places", "b", "a")])

    def test_errors_in_order(self):
        studio = filled(*COMMANDS)
        for new in ["", "rows", "new"]:
            self.assert_refused(UnknownName, studio, ("rename", "no", new), name="no")
        for new in NO_NAMES:
            self.assert_refused(InvalidName, studio, ("rename", "rows", new), name=new)
        for new in studio.names():
            self.assert_refused(DuplicateName, studio, ("rename", "rows", new), name=new)
            self.assert_refused(DuplicateName, studio, ("rename", new, new), name=new)

    def test_the_limit_does_not_matter(self):
        studio = filled(*COMMANDS, limit=7)
        studio.apply(("rename", "rows", "new"))
        self.assertEqual(studio.names()[0], "new")


class DropTest(StudioCase):
    def test_dropped(self):
        studio = filled(*COMMANDS)
        for name in ["tiles", "oblique", "both", "rows", "moved", "back", "snake"]:
            studio.apply(("drop", name))
            self.assertNotIn(name, studio.names())
        self.assertEqual(len(studio), 0)

    def test_errors_in_order(self):
        studio = filled(*COMMANDS)
        self.assert_refused(UnknownName, studio, ("drop", "no"), name="no")
        self.assert_refused(UnknownName, studio, ("drop", ""), name="")
        for name, user in [("rows", "both"), ("snake", "back"), ("back", "both"), ("moved", "oblique")]:
            self.assert_refused(InUse, studio, ("drop", name), name=user)

    def test_the_first_user_ascending(self):
        studio = filled(("scan", "a", (1,), PLACES), ("turned", "z", "a"), ("turned", "c", "a"), ("turned", "m", "a"))
        self.assert_refused(InUse, studio, ("drop", "a"), name="c")
        studio.apply(("rename", "z", "b"))
        self.assert_refused(InUse, studio, ("drop", "a"), name="b")
        self.assertEqual(studio.users("a"), ["b", "c", "m"])

    def test_dropped_and_added_again_behind_all_others(self):
        studio = filled(("scan", "a", (1,), PLACES), ("scan", "b", (1,), PLACES))
        studio.apply_all(("drop", "a"), ("turned", "a", "b"))
        self.assertEqual(studio.names(), ["b", "a"])


class QueriesTest(StudioCase):
    def test_unknown_names(self):
        studio = filled(*COMMANDS)
        for call in (studio.get, studio.definition, studio.users):
            for name in ["", "no", "Rows", "rows "]:
                self.assert_error(UnknownName, call, name, name=name)

    def test_in(self):
        studio = filled(*COMMANDS)
        for name in studio.names():
            self.assertIs(name in studio, True)
        for name in ["", "no", "ROWS", "row"]:
            self.assertIs(name in studio, False)
            self.assertIs(name not in studio, True)

    def test_equality(self):
        studio = filled(*COMMANDS)
        self.assertTrue(studio == filled(*COMMANDS))
        self.assertFalse(studio != filled(*COMMANDS))
        other = Studio(limit=7)
        for command in COMMANDS:
            other.apply(command)
        other.boxes("rows", "snake", [(0, 1)])
        self.assertTrue(studio == other)
        self.assertTrue(Studio() == Studio(limit=3))
        for other in [filled(*COMMANDS[:-1]), filled(COMMANDS[1], COMMANDS[0], *COMMANDS[2:]),
                      filled(*COMMANDS[:-1], ("blocks", "tiles", "back", (2, 1))), Studio(), None, 7, [], COMMANDS, "studio",
                      Scan((1,))]:
            self.assertFalse(studio == other)
            self.assertTrue(studio != other)

    def test_equal_scans_by_other_definitions(self):
        one = filled(("scan", "a", (1,), PLACES), ("shifted", "b", "a", (0,)))
        other = filled(("scan", "a", (1,), PLACES), ("scan", "b", (1,), PLACES))
        self.assertEqual(one.get("b"), other.get("b"))
        self.assertFalse(one == other)

    def test_new_lists(self):
        studio = filled(*COMMANDS)
        before = state(studio)
        studio.names().clear()
        studio.users("snake").append("x")
        studio.kept().append("x")
        self.assertEqual(state(studio), before)

    def test_by_name(self):
        studio = Studio(limit=5)
        studio.apply(command=COMMANDS[0])
        self.assertEqual(studio.get(name="rows"), Scan((1, 1)))
        self.assertEqual(studio.definition(name="rows"), COMMANDS[0])
        self.assertEqual(studio.users(name="rows"), [])
        studio.set_limit(value=3)
        self.assertEqual(studio.limit, 3)
        self.assertEqual(studio.boxes(looks=[(0, 1)], other="rows", one="rows"), [])
        self.assertIs(studio.alike(box=(1, 1), looks=[(0, 1)], other="rows", one="rows"), True)
        self.assertRaises(TypeError, studio.alike, "rows", "rows", [(0, 1)], (1, 1))
        self.assertRaises(TypeError, Studio, 5)


class BusyTest(StudioCase):
    def test_busy_while_commands_are_applied(self):
        studio = Studio()
        seen = []

        class Watching(tuple):
            """Divisors that see whether the studio is busy when they are looked at."""
            def __iter__(self):
                seen.append(studio.busy)
                return super().__iter__()

        self.assertIs(studio.busy, False)
        studio.apply(("scan", "a", Watching((2,)), PLACES))
        self.assertEqual(set(seen), {True})
        self.assertIs(studio.busy, False)
        seen.clear()
        self.assert_error(InvalidTree, studio.apply, ("scan", "b", Watching((2,)), None))
        self.assertEqual(set(seen), {True})
        self.assertIs(studio.busy, False)
        self.assert_error(InvalidCommand, studio.apply, (), first=None)
        self.assertIs(studio.busy, False)
        studio.apply_all()
        self.assertIs(studio.busy, False)
        self.assertIs(studio.twin().busy, False)


class DrawnCommandsTest(ScanCase):
    """Many drawn commands, steps, limits and comparisons, against the plain model."""

    def test_drawn_sessions(self):
        tags = set()
        for seed in range(150):
            source = random.Random(7000 + seed)
            studio, model = Studio(), Model()
            for _ in range(60):
                self.one_call(source, studio, model, tags)
                self.assert_same(studio, model)
                if source.random() < 0.05:
                    studio = self.replaced_by_twin(source, studio, model)
        self.assertGreaterEqual(tags, {"InvalidName", "DuplicateName", "CapacityExceeded", "UnknownName", "NotGiven", "Broken",
                                       "InUse", "InvalidCommand", "NothingLeft", "InvalidLimit", "Unlike", "InvalidLooks",
                                       "InvalidDivisors", "InvalidTree", "InvalidPlace", "InvalidMatrix"})

    def one_call(self, source, studio, model, tags):
        choice = source.randrange(10)
        looks = source.choice([[(0, 1)], [(1, 0), (0, 1)], [(0, 1), (1, 0)], [(1,)], [(-2,), (1,)], []])
        names = [one[1] for one in model.definitions] + ["a"]
        if choice < 5:
            values = [random_command(source, model.definitions) for _ in range(source.choice([0, 1, 1, 1, 1, 2, 3]))]
            name = "apply_all"
        else:
            name = ["undo", "redo", "set_limit", "boxes", "boxes"][choice - 5]
            values = {"undo": [], "redo": [], "set_limit": [source.choice([0, 3, 5, 7, 12, 12, 13, True])],
                      "boxes": [source.choice(names), source.choice(names), looks]}[name]
        try:
            wanted = getattr(model, name)(*values)
        except Refused as refused:
            with self.assertRaises((ValueError, LookupError)) as caught:
                getattr(studio, name)(*values)
            self.assertEqual(vars(caught.exception), refused.fields, (name, values))
            tags.add(refused.fields["tag"])
        else:
            self.assertEqual(getattr(studio, name)(*values), wanted)

    def replaced_by_twin(self, source, studio, model):
        """The twin goes on as the model does, whatever happens to the studio."""
        twin = studio.twin()
        self.assertTrue(twin == studio)
        studio.apply_all(*[("rename", name, "w" + name[:7]) for name in studio.names() if "w" + name[:7] not in studio][:1])
        for call in (studio.undo, studio.undo, studio.redo):
            if studio.history()[call != studio.undo]:
                call()
        studio.limit = 12
        self.assert_same(twin, model)
        return twin

    def assert_same(self, studio, model):
        definitions = model.definitions
        names = [one[1] for one in definitions]
        self.assertEqual(studio.names(), names)
        self.assertEqual([studio.definition(name) for name in names], definitions)
        self.assertEqual([studio.get(name) for name in names], [scan_of(definitions, name) for name in names])
        for name in names:
            self.assertEqual(studio.users(name), sorted(one[1] for one in definitions if name in uses(one)))
        self.assertEqual(studio.history(), (len(model.past), len(model.future)))
        self.assertEqual((studio.limit, studio.computed, studio.busy), (model.limit, model.computed, False))
        self.assertEqual(studio.kept(), sorted(key[:3] for key in model.kept))
        self.assertEqual((len(studio), repr(studio)), (len(names), f"Studio({len(names)} scans)"))


if __name__ == "__main__":
    unittest.main()

"""The interface as a whole: what stands where, by which arguments it is called, and each error by a plain call."""

import importlib
import inspect
import itertools
import unittest

from lookscan import errors
from lookscan.alike import alike_in, always_alike, parting, unlike, unlike_boxes
from lookscan.console import Console
from lookscan.fills import fill, fill_by_waves, views
from lookscan.makers import blocks_scan, forked_scan, keys_scan, rows_scan, snake_scan
from lookscan.pages import read_studio, write_studio
from lookscan.places import cells, class_count, class_of, rests_of
from lookscan.rings import is_ring, ring_box, ring_cells
from lookscan.runners import Runner, WaveRunner
from lookscan.scans import Scan
from lookscan.solving import has_table, solve
from lookscan.studio import Studio
from lookscan.tables import Table
from lookscan.tongue import format_ring, format_scan, format_table, parse_scan, parse_table
from lookscan.waves import chain_waves, wave_chain, wave_count, waves
from tests.checks import ScanCase

PLACES = ("places",)
# The parameters of each function, as the interface shows them.
FUNCTIONS = {
    "places": ["cells(box)", "class_count(divisors)", "class_of(divisors, place)", "rests_of(divisors, number)"],
    "makers": ["rows_scan(directions)", "snake_scan(directions)", "keys_scan(directions, *keys)",
               "blocks_scan(sides, *, inner=None)", "forked_scan(divisors, *groups)"],
    "alike": ["unlike(one, other, looks)", "unlike_boxes(one, other, looks)", "always_alike(one, other, looks)",
              "alike_in(one, other, looks, box)", "parting(one, other, looks, box)"],
    "solving": ["solve(table)", "has_table(scan, table)"],
    "rings": ["is_ring(table, ring)", "ring_cells(table, ring)", "ring_box(table, ring)"],
    "waves": ["waves(scan, looks, box)", "wave_count(scan, looks, box)", "wave_chain(scan, looks, box)",
              "chain_waves(scan, looks, chain)"],
    "fills": ["fill(scan, looks, box, rule, begun)", "fill_by_waves(scan, looks, box, rule, begun)",
              "views(scan, looks, box)"],
    "tongue": ["format_scan(scan)", "format_table(table)", "format_ring(ring)", "parse_scan(text)", "parse_table(text)"],
    "pages": ["write_studio(studio)", "read_studio(text)"],
}
# The parameters of each class and of its methods, without self; properties have none.
CLASSES = {
    "scans.Scan": ["__init__(divisors, tree=('places',))", "divisors", "tree", "directions", "nodes", "__call__(one, other)",
                   "tied(one, other)", "path(place)", "order(box)", "rank(box, place)", "refined(divisors)", "turned()",
                   "shifted(place)", "slanted(matrix)", "then(other)", "__eq__(other)", "__repr__()"],
    "tables.Table": ["__init__(divisors, looks, words)", "of(scan, looks)", "divisors", "looks()", "words()",
                     "sees(place, look)", "refined(divisors)", "joined(other)", "clashes()", "__eq__(other)", "__len__()",
                     "__repr__()"],
    "runners.Runner": ["__init__(scan, looks, box, rule, begun)", "step()", "back()", "position", "move_to(count)",
                       "all_values()", "value(cell)", "remaining()", "twin()", "__len__()", "__contains__(cell)"],
    "runners.WaveRunner": ["__init__(scan, looks, box, rule, begun)", "twin()"],
    "studio.Studio": ["__init__(*, limit=12)", "limit", "set_limit(value)", "apply(command)", "apply_all(*commands)", "undo()",
                      "redo()", "history()", "busy", "names()", "get(name)", "definition(name)", "users(name)",
                      "boxes(one, other, looks)", "alike(one, other, looks, *, box=None)", "kept()", "computed", "twin()",
                      "__eq__(other)", "__len__()", "__contains__(name)", "__repr__()"],
    "console.Console": ["__init__(*, studio=None)", "run(line)", "__call__(line)", "studio()", "log()", "__len__()"],
}
CONSTANTS = {"places.MAX_DIRECTIONS": 3, "places.MAX_CLASSES": 12, "places.MAX_CELLS": 2000, "rings.MAX_RING": 2000,
             "fills.MAX_MODULUS": 1000000, "scans.Scan.MAX_DEPTH": 20, "scans.Scan.MAX_NODES": 200, "studio.Studio.MOST": 12}


def module(name):
    return importlib.import_module(f"lookscan.{name}")


class PlacesOfNamesTest(unittest.TestCase):
    def test_functions(self):
        for name, shown in FUNCTIONS.items():
            for text in shown:
                found = vars(module(name))[text.partition("(")[0]]
                self.assertTrue(inspect.isfunction(found))
                self.assertEqual(found.__module__, f"lookscan.{name}")
                self.assertEqual(f"{found.__name__}{inspect.signature(found)}", text)

    def test_classes(self):
        for name, shown in CLASSES.items():
            file, class_name = name.split(".")
            found = vars(module(file))[class_name]
            self.assertEqual(found.__module__, f"lookscan.{file}")
            for text in shown:
                member = vars(found)[text.partition("(")[0]]
                if "(" not in text:
                    self.assertIsInstance(member, property, text)
                    continue
                if isinstance(member, classmethod):
                    member = member.__func__
                parameters = list(inspect.signature(member).parameters.values())
                shown_parameters = inspect.Signature(parameters[1:])
                self.assertEqual(f"{member.__name__}{shown_parameters}", text)

    def test_constants(self):
        for name, wanted in CONSTANTS.items():
            file, *path = name.split(".")
            found = module(file)
            for part in path:
                found = getattr(found, part)
            self.assertEqual((found, type(found)), (wanted, int))

    def test_generators(self):
        self.assertTrue(inspect.isgeneratorfunction(cells))
        self.assertTrue(inspect.isgeneratorfunction(Runner.remaining))

    def test_the_properties_that_are_assigned(self):
        self.assertIsNotNone(Runner.position.fset)
        self.assertIsNotNone(Studio.limit.fset)
        for owner, name in [(Scan, "divisors"), (Scan, "tree"), (Scan, "directions"), (Scan, "nodes"), (Table, "divisors"),
                            (Studio, "busy"), (Studio, "computed")]:
            self.assertIsNone(vars(owner)[name].fset)


def studio_of(*commands, limit=12):
    studio = Studio(limit=limit)
    studio.apply_all(*commands)
    return studio


ONE = ("scan", "a", (1,), PLACES)
TABLE = Table((1,), [(1,), (-1,)], ["ff"])
RULE = (10, 1, (1,), 0, 0)
# For each class of error a plain call that raises it, and its attributes.
PLAIN_CALLS = {
    "InvalidPlace": (lambda: Scan((1,)).path((1, 2)), {"given": (1, 2)}),
    "InvalidBox": (lambda: Scan((1,)).order((-1,)), {"given": (-1,)}),
    "InvalidDivisors": (lambda: Scan((0,)), {}),
    "TooManyClasses": (lambda: Scan((13,)), {"limit": 12}),
    "InvalidLooks": (lambda: waves(Scan((1,)), [(1,), (0,)], (3,)), {"index": 1}),
    "InvalidTree": (lambda: Scan((1,), ("place",)), {}),
    "InvalidMatrix": (lambda: Scan((1,)).slanted(((2,),)), {}),
    "InvalidWords": (lambda: Table((2,), [(1,)], ["f", "x"]), {"index": 1}),
    "Unlike": (lambda: unlike(Scan((1,)), Scan((1, 1)), [(1,)]), {}),
    "TooManyCells": (lambda: Scan((1,)).order((2001,)), {"limit": 2000}),
    "InvalidRing": (lambda: ring_box(TABLE, []), {}),
    "TooLong": (lambda: ring_box(TABLE, [(0, (-1,), 1001), (0, (1,), 1001)]), {"limit": 2000}),
    "InvalidRule": (lambda: fill(Scan((1,)), [(1,)], (2,), (10, 1, (1,), None, 0), [1, 2]), {"index": 3}),
    "InvalidValues": (lambda: fill(Scan((1,)), [(1,)], (2,), RULE, [1, 10]), {"index": 1}),
    "InvalidCount": (lambda: rows_scan(4), {"given": 4}),
    "InvalidName": (lambda: studio_of(("scan", "A", (1,), PLACES)), {"name": "A"}),
    "DuplicateName": (lambda: studio_of(ONE, ONE), {"name": "a"}),
    "CapacityExceeded": (lambda: studio_of(ONE, ("turned", "b", "a"), limit=1), {"limit": 1}),
    "InUse": (lambda: studio_of(ONE, ("turned", "b", "a"), ("drop", "a")), {"name": "b"}),
    "InvalidLimit": (lambda: Studio(limit=13), {"limit": 13}),
    "InvalidCommand": (lambda: studio_of(("scan",)), {"first": "scan"}),
    "ParseError": (lambda: read_studio("scan a 1 : places\nx\n"), {"line": 1}),
    "NotGiven": (lambda: studio_of(ONE, ("turned", "b", "a"), ("change", "b", (1,), PLACES)), {"name": "b"}),
    "Broken": (lambda: studio_of(ONE, ("shifted", "b", "a", (1,)), ("change", "a", (1, 1), PLACES)), {"name": "b"}),
    "UnknownName": (lambda: Studio().get("a"), {"name": "a"}),
    "NothingLeft": (lambda: Studio().undo(), {}),
}


class PlainCallsTest(ScanCase):
    def test_each_class_of_error(self):
        for name, (call, fields) in PLAIN_CALLS.items():
            self.assert_error(getattr(errors, name), call, **fields)

    def test_bases(self):
        for name, (call, fields) in PLAIN_CALLS.items():
            base = {"UnknownName": errors.Missing, "NothingLeft": IndexError}.get(name, errors.ScanError)
            with self.assertRaises(base) as caught:
                call()
            self.assertEqual(type(caught.exception).__bases__, (base,))
            self.assertEqual(caught.exception.tag, name)

    def test_all_classes_of_errors(self):
        defined = [name for name, value in vars(errors).items() if inspect.isclass(value)]
        self.assertEqual(sorted(defined), sorted([*PLAIN_CALLS, "ScanError", "Missing"]))


SCAN, OTHER, LOOKS = snake_scan(2), rows_scan(2), [(0, 1)]
BEGUN = [1, 2, 3, 4]
# A call, and its arguments by name in the order of the interface.
KEYWORDS = [
    (class_count, {"divisors": (2, 3)}),
    (class_of, {"divisors": (2, 3), "place": (1, 2)}),
    (rests_of, {"divisors": (2, 3), "number": 4}),
    (Scan, {"divisors": (2, 1), "tree": SCAN.tree}),
    (SCAN, {"one": (0, 0), "other": (1, 0)}),
    (SCAN.tied, {"one": (0, 0), "other": (0, 1)}),
    (SCAN.path, {"place": (3, 4)}),
    (SCAN.order, {"box": (2, 2)}),
    (SCAN.rank, {"box": (2, 2), "place": (1, 0)}),
    (SCAN.refined, {"divisors": (4, 1)}),
    (SCAN.shifted, {"place": (3, 4)}),
    (SCAN.slanted, {"matrix": ((1, 1), (0, 1))}),
    (SCAN.then, {"other": OTHER}),
    (rows_scan, {"directions": 2}),
    (snake_scan, {"directions": 3}),
    (keys_scan, {"directions": 2}),
    (forked_scan, {"divisors": (1,)}),
    (blocks_scan, {"sides": (2, 3)}),
    (Table, {"divisors": (2,), "looks": [(1,)], "words": ["f", "u"]}),
    (Table.of, {"scan": SCAN, "looks": LOOKS}),
    (TABLE.sees, {"place": (5,), "look": (1,)}),
    (TABLE.refined, {"divisors": (3,)}),
    (TABLE.joined, {"other": Table((1,), [(2,)], ["u"])}),
    *[(call, {"one": OTHER, "other": SCAN, "looks": LOOKS}) for call in (unlike, unlike_boxes, always_alike)],
    *[(call, {"one": OTHER, "other": SCAN, "looks": LOOKS, "box": (3, 2)}) for call in (alike_in, parting)],
    (solve, {"table": TABLE}),
    (has_table, {"scan": SCAN, "table": Table.of(SCAN, LOOKS)}),
    *[(call, {"table": TABLE, "ring": [(0, (-1,), 1), (0, (1,), 1)]}) for call in (is_ring, ring_cells, ring_box)],
    *[(call, {"scan": SCAN, "looks": LOOKS, "box": (2, 2)}) for call in (waves, wave_count, wave_chain, views)],
    (chain_waves, {"scan": SCAN, "looks": LOOKS, "chain": [(0, 0), (0, 1)]}),
    *[(call, {"scan": SCAN, "looks": LOOKS, "box": (2, 2), "rule": RULE, "begun": BEGUN}) for call in (fill, fill_by_waves)],
    (format_scan, {"scan": SCAN}),
    (format_table, {"table": TABLE}),
    (format_ring, {"ring": [(0, (-1,), 1)]}),
    (parse_scan, {"text": "1 : places"}),
    (parse_table, {"text": "1 : 1 : f"}),
    (write_studio, {"studio": studio_of(ONE)}),
    (read_studio, {"text": "scan a 1 : places\n"}),
    (studio_of(ONE).get, {"name": "a"}),
    (studio_of(ONE).definition, {"name": "a"}),
    (studio_of(ONE).users, {"name": "a"}),
    (studio_of(ONE, ("turned", "b", "a")).boxes, {"one": "a", "other": "b", "looks": [(1,)]}),
    (studio_of(ONE, ("turned", "b", "a")).alike, {"one": "a", "other": "b", "looks": [(1,)]}),
    (Console().run, {"line": "names"}),
    (Console(), {"line": "names"}),
]


class KeywordsTest(ScanCase):
    @staticmethod
    def answer(call, values, named):
        """What a call returns, or the error that it raises."""
        try:
            return call(*values, **named)
        except (ValueError, LookupError) as error:
            return type(error), vars(error)

    def test_in_any_order(self):
        for call, arguments in KEYWORDS:
            wanted = self.answer(call, list(arguments.values()), {})
            for names in itertools.islice(itertools.permutations(arguments), 24):
                self.assertEqual(self.answer(call, [], {name: arguments[name] for name in names}), wanted)
            first, *rest = arguments
            named = {name: arguments[name] for name in rest[::-1]}
            self.assertEqual(self.answer(call, [arguments[first]], named), wanted)
        self.assertEqual(list(cells(box=(2, 2))), list(cells((2, 2))))

    def test_runners(self):
        named = {"begun": BEGUN, "rule": RULE, "box": (2, 2), "looks": LOOKS, "scan": SCAN}
        for call in (Runner, WaveRunner):
            one, other = call(SCAN, LOOKS, (2, 2), RULE, BEGUN), call(**named)
            one.move_to(2)
            other.move_to(count=2)
            self.assertEqual(one.all_values(), other.all_values())
            self.assertEqual(one.value((0, 1)), other.value(cell=(0, 1)))

    def test_keyword_only(self):
        studio = studio_of(ONE, ("turned", "b", "a"))
        self.assertIs(studio.alike(box=(1,), looks=[(1,)], one="a", other="b"), True)
        self.assertEqual(blocks_scan(inner=SCAN, sides=(2, 1)), blocks_scan((2, 1), inner=SCAN))
        self.assertEqual(Studio(limit=3).limit, 3)
        self.assertIs(Console(studio=studio).studio(), studio)
        for call in [lambda: Studio(3), lambda: Console(studio), lambda: blocks_scan((2, 1), SCAN),
                     lambda: studio.alike("a", "b", [(1,)], (1,))]:
            self.assertRaises(TypeError, call)

    def test_studio_commands(self):
        studio = Studio()
        studio.apply(command=ONE)
        studio.set_limit(value=1)
        self.assertEqual((studio.names(), studio.limit), (["a"], 1))


class GeneralRulesTest(ScanCase):
    def test_tuples_where_a_list_is_documented(self):
        looks = tuple(LOOKS)
        self.assertEqual(waves(SCAN, looks, (2, 2)), waves(SCAN, LOOKS, (2, 2)))
        self.assertEqual(fill(SCAN, looks, (2, 2), RULE, tuple(BEGUN)), fill(SCAN, LOOKS, (2, 2), RULE, BEGUN))
        self.assertEqual(Table((1, 1), looks, ("f",)), Table((1, 1), LOOKS, ["f"]))
        self.assertEqual(format_ring(((0, (1,), 2),)), format_ring([(0, (1,), 2)]))
        studio = studio_of(("scan", "a", (1, 1), PLACES), ("turned", "b", "a"))
        self.assertEqual(studio.boxes("a", "b", looks), studio.boxes("a", "b", LOOKS))
        self.assertEqual(studio.computed, 1)

    def test_equal_calls_return_equal_results(self):
        for call, arguments in KEYWORDS:
            self.assertEqual(self.result(call, arguments), self.result(call, arguments))

    @staticmethod
    def result(call, arguments):
        try:
            return call(**arguments)
        except ValueError as error:
            return vars(error)

    def test_what_returns_nothing(self):
        studio = Studio()
        self.assertIsNone(studio.apply(ONE))
        self.assertIsNone(studio.apply_all())
        self.assertIsNone(studio.undo())
        self.assertIsNone(studio.redo())
        self.assertIsNone(studio.set_limit(5))
        self.assertIsNone(Runner(SCAN, LOOKS, (2, 2), RULE, BEGUN).move_to(1))


if __name__ == "__main__":
    unittest.main()

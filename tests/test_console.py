"""The console: every form of line, its answer, and the log."""

import random
import unittest

from lookscan.alike import unlike_boxes
from lookscan.console import Console
from lookscan.makers import snake_scan
from lookscan.pages import write_studio
from lookscan.scans import Scan
from lookscan.solving import solve
from lookscan.studio import Studio
from lookscan.tables import Table
from lookscan.tongue import format_ring, format_scan, format_table
from lookscan.waves import wave_count
from tests.checks import ScanCase
from tests.model import random_command
from tests.reference import HUGE, all_divisors, random_looks, random_words
from tests.test_pages import LINES
from tests.test_studio import COMMANDS, filled, state
from tests.test_tongue import text_of

QUESTIONS = ["names", "show rows", "before rows : 0 0 : 0 1", "alike rows snake : 0 1", "table snake : 0 1",
             "waves snake : 0 1 : 3 3", "solve 1 : 1 : f", "show no", "before rows : 0 : 1", "alike rows no : 1",
             "table rows : 0 0", "waves rows : 1 0 : 3", "solve x", "alike back tiles : 1 0 , 0 1"]
INVALID = [
    "", " ", "what", "scan", "Names", "names a", "names ", " names", "names  ", "none", "ok", "undo 1", "redo now", "undo ",
    "show", "show ", "show rows back", "show  rows", "drop", "drop a b", "drop ", "rename a", "rename a b c", "rename  a b",
    "turned a", "turned a rows x", "then a rows", "then a rows back x", "scan a", "scan a 1", "scan a 1 :",
    "scan a 1 : place", "scan a : places", "scan a 1 places", "scan a b 1 : places", "scan a 1 : places ",
    "scan a +1 : places", "scan a 01 : places", "scan a 1 : key 1 / 0 > places places", "scan a 1 : fork",
    "scan a 1 : " + "key 1 / 0 > " * 20 + "places", "scan a " + "1" * 31 + " : places", "change rows", "change rows 1 1",
    "change rows 1 1 : place", "change rows 1 1 : places x", "change rows x : places", "shifted a rows", "shifted a rows x",
    "shifted a rows 1 ,", "shifted a rows 1 , 2", "shifted a rows -0 1", "shifted a rows 1 " + "1" * 31, "slanted a rows",
    "slanted a rows 1 0 ,", "slanted a rows , 1", "slanted a rows x", "blocks a rows", "blocks a rows x", "blocks a rows 1 , 1",
    "before rows", "before rows :", "before rows : 0 0", "before rows : 0 0 :", "before rows : 0 0 : 0 1 :",
    "before rows : 0 0 : 0 1 : 0 2", "before rows 0 0 : 0 1", "before rows : : 0 1", "before rows : 0 0 , 0 1",
    "before rows : x : 0 1", "before rows back : 0 0 : 0 1", "before : 0 0 : 0 1", "before rows : 0 0 : 0 1 ",
    "alike rows", "alike rows snake", "alike rows snake :", "alike rows : 0 1", "alike rows snake 0 1",
    "alike rows snake back : 0 1", "alike rows snake : 0 1 ,", "alike rows snake : , 0 1", "alike rows snake : x",
    "alike rows snake : 0 1 : 2 2", "alike rows snake : 0  1", "table", "table rows", "table rows :", "table rows 0 1",
    "table rows snake : 0 1", "table rows : x", "table rows : 0 1 :", "table : 0 1", "waves rows", "waves rows : 0 1",
    "waves rows : 0 1 :", "waves rows : : 3 3", "waves rows : 0 1 : 3 , 3", "waves rows : 0 1 : 3 3 :", "waves rows 0 1 : 3 3",
    "waves rows snake : 0 1 : 3 3", "waves rows : 0 1 : x", "waves rows : 0 1 : 3 3 ", "solve", "solve ", "solve  1 : 1 : f",
    "solve 1 : 1 : f ", "solve 1 :  1 : f", "boxes rows snake : 0 1", "kept", "get rows", "limit", "limit 3", "apply", "help",
]


def fresh():
    return Console(studio=filled(*COMMANDS))


class CommandsTest(ScanCase):
    def test_definitions(self):
        console = Console()
        self.assertEqual([console.run(line) for line in LINES], ["ok"] * 7)
        self.assertEqual(console.studio(), filled(*COMMANDS))
        self.assertEqual(console.studio().history(), (7, 0))

    def test_other_commands(self):
        console = fresh()
        for line, call in [("change snake 1 2 : key 1 -1 / 0 3 > places",
                            ("change", "snake", (1, 2), ("key", (1, -1), (0, 3), ("places",)))),
                           ("rename rows r", ("rename", "rows", "r")), ("drop tiles", ("drop", "tiles"))]:
            wanted = console.studio().twin()
            wanted.apply(call)
            self.assertEqual(console.run(line), "ok")
            self.assertEqual(state(console.studio()), state(wanted))

    def test_undo_and_redo(self):
        console = fresh()
        self.assertEqual(console("redo"), "error NothingLeft")
        self.assertEqual(console("drop tiles"), "ok")
        self.assertEqual([console("undo"), console("undo"), console("undo")], ["ok", "ok", "error NothingLeft"])
        self.assertEqual(console("names"), "none")
        self.assertEqual([console("redo"), console("redo"), console("redo")], ["ok", "ok", "error NothingLeft"])
        self.assertEqual(console("names"), "rows snake back both moved oblique")

    def test_errors(self):
        console = fresh()
        for line, name in [
            ("scan A 1 : places", "InvalidName"), ("scan rows 1 : places", "DuplicateName"),
            ("scan a 0 : places", "InvalidDivisors"), ("scan a 13 : places", "TooManyClasses"),
            ("scan a 1 : key 1 1 / 0 > places", "InvalidTree"), ("scan a 2 : fork ( 0 : places )", "InvalidTree"),
            ("turned a no", "UnknownName"), ("turned 1 rows", "InvalidName"), ("turned , /", "InvalidName"),
            ("turned a ( )", "invalid"), ("then a rows no", "UnknownName"), ("shifted a rows 1", "InvalidPlace"),
            ("shifted a rows 1 2 3 4", "InvalidPlace"), ("shifted a no 1", "UnknownName"),
            ("slanted a rows 1", "InvalidMatrix"), ("slanted a rows 2 0 , 0 1", "InvalidMatrix"),
            ("slanted a rows 1 0 0 1", "InvalidMatrix"), ("blocks a rows 0 1", "InvalidBox"), ("blocks a rows 1", "Unlike"),
            ("blocks a rows 13 1", "TooManyClasses"), ("change no 1 : places", "UnknownName"),
            ("change back 0 : places", "NotGiven"), ("change rows 0 : places", "InvalidDivisors"),
            ("change rows 1 : places", "Broken"), ("rename no a", "UnknownName"), ("rename rows A", "InvalidName"),
            ("rename rows rows", "DuplicateName"), ("drop no", "UnknownName"), ("drop rows", "InUse"),
        ]:
            before = state(console.studio())
            self.assertEqual(console.run(line), name if name == "invalid" else f"error {name}")
            self.assertEqual(state(console.studio()), before)

    def test_capacity(self):
        console = Console(studio=Studio(limit=1))
        self.assertEqual([console("scan a 1 : places"), console("scan b 1 : places")], ["ok", "error CapacityExceeded"])

    def test_drawn_commands(self):
        """A line does what its command does."""
        source = random.Random(901)
        console, studio = Console(), Studio()
        answers = []
        for _ in range(400):
            definitions = [studio.definition(name) for name in studio.names()]
            command = random_command(source, definitions)
            if len(command) < 2 or command[0] not in ("scan", "change", "turned", "then", "rename", "drop") or "" in command:
                continue
            line = self.line(command)
            try:
                studio.apply(command)
                wanted = "ok"
            except (ValueError, LookupError) as error:
                wanted = "error " + type(error).__name__
                if wanted == "error InvalidCommand" or "place" in line.split(" "):
                    wanted = "invalid"
            self.assertEqual(console(line), wanted, line)
            self.assertEqual(console.studio(), studio)
            answers.append(wanted)
        self.assertGreater(answers.count("ok"), 50)

    @staticmethod
    def line(command):
        if command[0] in ("scan", "change"):
            text = "place" if command[3] == ("place",) else text_of(command[3])
            return " ".join([*command[:2], *map(str, command[2]), ":", text])
        return " ".join(command)


class QuestionsTest(ScanCase):
    def test_names(self):
        self.assertEqual(Console().run("names"), "none")
        self.assertEqual(fresh().run("names"), "rows snake back both moved oblique tiles")
        self.assertEqual(Console(studio=filled(COMMANDS[0])).run("names"), "rows")

    def test_show(self):
        console = fresh()
        for name in console.studio().names():
            self.assertEqual(console.run(f"show {name}"), format_scan(console.studio().get(name)))
        self.assertEqual(console.run("show rows"), "1 1 : places")
        for name in ["no", "A", "5", ",", "/", "names"]:
            self.assertEqual(console.run(f"show {name}"), "error UnknownName")

    def test_before(self):
        console = fresh()
        for one, other in [((0, 0), (0, 1)), ((1, 0), (1, 1)), ((1, 1), (1, 0)), ((2, 2), (2, 2)), ((-HUGE, 5), (HUGE, -5)),
                           ((HUGE, -5), (-HUGE, 5))]:
            for name in console.studio().names():
                wanted = "yes" if console.studio().get(name)(one, other) else "no"
                self.assertEqual(console.run(f"before {name} : {one[0]} {one[1]} : {other[0]} {other[1]}"), wanted)
        self.assertEqual(console.run("before rows : 0 0 : 0 0"), "no")
        for line in ["before rows : 0 : 0 1", "before rows : 0 0 : 0", "before rows : 0 0 0 : 0 0 0", "before rows : 5 : 5"]:
            self.assertEqual(console.run(line), "error InvalidPlace")
        self.assertEqual(console.run("before no : 0 : 0"), "error UnknownName")

    def test_alike(self):
        console = fresh()
        studio = console.studio()
        for one in studio.names():
            for other in studio.names():
                for looks, text in [([(0, 1)], "0 1"), ([(1, 0), (0, -1), (2, -3)], "1 0 , 0 -1 , 2 -3")]:
                    boxes = unlike_boxes(studio.get(one), studio.get(other), looks)
                    wanted = " , ".join(f"{box[0]} {box[1]}" for box in boxes) or "always"
                    self.assertEqual(console.run(f"alike {one} {other} : {text}"), wanted)
        self.assertEqual(console.run("alike rows snake : 0 1"), "2 2")
        self.assertEqual(console.run("alike rows rows : 0 1"), "always")
        console.run("scan line 1 : places")
        for line, name in [("alike no other : 0", "UnknownName"), ("alike rows no : 0", "UnknownName"),
                           ("alike rows line : 0", "Unlike"), ("alike rows snake : 0", "InvalidLooks"),
                           ("alike rows snake : 0 0", "InvalidLooks"), ("alike rows snake : 0 1 , 0 1", "InvalidLooks"),
                           ("alike rows snake : 10 1", "InvalidLooks"),
                           ("alike rows snake : 0 1 , 0 2 , 0 3 , 0 4 , 0 5", "InvalidLooks")]:
            self.assertEqual(console.run(line), f"error {name}")

    def test_table(self):
        console = fresh()
        self.assertEqual(console.run("table snake : 0 1 , -1 0"), "uf ff")
        for name in console.studio().names():
            words = Table.of(console.studio().get(name), [(2, -1), (0, 3)]).words()
            self.assertEqual(console.run(f"table {name} : 2 -1 , 0 3"), " ".join(words))
        for line, name in [("table no : 0 1", "UnknownName"), ("table rows : 0", "InvalidLooks"),
                           ("table rows : 0 0", "InvalidLooks"), ("table rows : 1 0 , 1 0", "InvalidLooks")]:
            self.assertEqual(console.run(line), f"error {name}")

    def test_waves(self):
        console = fresh()
        for name in console.studio().names():
            wanted = wave_count(console.studio().get(name), [(-1, 0), (0, -1)], (5, 4))
            self.assertEqual(console.run(f"waves {name} : -1 0 , 0 -1 : 5 4"), str(wanted))
        self.assertEqual(console.run("waves rows : -1 0 : 0 " + "9" * 30), "0")
        for line, name in [("waves no : 0 : 0", "UnknownName"), ("waves rows : 0 : 0", "InvalidLooks"),
                           ("waves rows : 0 1 : 3", "InvalidBox"), ("waves rows : 0 1 : 3 -1", "InvalidBox"),
                           ("waves rows : 0 1 : 2001 1", "TooManyCells")]:
            self.assertEqual(console.run(line), f"error {name}")

    def test_solve(self):
        console = Console()
        self.assertEqual(console.run("solve 1 : 1 , -1 : ff"), "ring 0 : -1 : 1 , 0 : 1 : 1")
        source = random.Random(911)
        kinds = []
        for _ in range(60):
            divisors = source.choice(all_divisors(12))
            looks = random_looks(source, len(divisors), source.randint(1, 4))
            table = Table(divisors, looks, random_words(source, divisors, looks))
            kind, found = solve(table)
            wanted = format_ring(found) if kind == "ring" else format_scan(found)
            self.assertEqual(console.run(f"solve {format_table(table)}"), f"{kind} {wanted}")
            kinds.append(kind)
        self.assertGreater(min(kinds.count("scan"), kinds.count("ring")), 10)

    def test_solve_refuses_what_is_no_text_of_a_table(self):
        console = Console()
        for text, name in [("x", "ParseError"), (":", "ParseError"), ("1 : 1", "ParseError"), ("1 : 1 :", "ParseError"),
                           ("1 : 1 : f :", "ParseError"), ("solve", "ParseError"), ("1 : +1 : f", "ParseError"),
                           ("1 1 : places", "ParseError"), ("0 : 1 : f", "InvalidDivisors"), ("13 : 1 : f", "TooManyClasses"),
                           ("1 : 0 : f", "InvalidLooks"), ("1 : 1 : x", "InvalidWords"), ("1 : 1 : f f", "InvalidWords"),
                           ("1 : 1 : ,", "InvalidWords")]:
            self.assertEqual(console.run(f"solve {text}"), f"error {name}")


class InvalidLinesTest(ScanCase):
    def test_lines_that_are_almost_of_a_form(self):
        console = fresh()
        before = state(console.studio())
        for line in INVALID:
            self.assertEqual(console.run(line), "invalid", line)
        self.assertEqual(state(console.studio()), before)
        self.assertEqual(console.log(), [(line, "invalid") for line in INVALID])

    def test_words_that_are_numbers_may_be_names(self):
        console = fresh()
        self.assertEqual(console.run("rename 5 7"), "error UnknownName")
        self.assertEqual(console.run("shifted 1 2 3"), "error InvalidName")
        self.assertEqual(console.run("shifted 1 2"), "invalid")
        self.assertEqual(console.run("scan 1 1 : places"), "error InvalidName")
        self.assertEqual(console.run("scan 1 : places"), "invalid")


class LogTest(ScanCase):
    def test_log_and_len(self):
        console = Console()
        self.assertEqual((console.log(), len(console)), ([], 0))
        lines = ["scan a 1 1 : places", "names", "drop b", "what", "", "names", "undo", "undo"]
        answers = ["ok", "a", "error UnknownName", "invalid", "invalid", "a", "ok", "error NothingLeft"]
        for at, line in enumerate(lines):
            self.assertEqual((console if at % 2 else console.run)(line), answers[at])
            self.assertEqual(len(console), at + 1)
        self.assertEqual(console.log(), list(zip(lines, answers)))
        console.log().clear()
        console.log()[0] = None
        self.assertEqual(console.log(), list(zip(lines, answers)))

    def test_questions_change_nothing_but_the_log(self):
        console = fresh()
        console.run("drop tiles")
        console.run("undo")
        before = state(console.studio())
        for at, line in enumerate(QUESTIONS):
            console.run(line)
            self.assertEqual(state(console.studio()), before, line)
            self.assertEqual(len(console), at + 3)
        self.assertNotIn("invalid", [answer for line, answer in console.log()])

    def test_the_very_studio(self):
        studio = filled(*COMMANDS)
        console = Console(studio=studio)
        self.assertIs(console.studio(), studio)
        studio.apply(("drop", "tiles"))
        self.assertEqual(console.run("names"), "rows snake back both moved oblique")
        console.run("drop oblique")
        self.assertNotIn("oblique", studio)
        empty = Studio()
        self.assertIs(Console(studio=empty).studio(), empty)
        self.assertIsNot(Console().studio(), Console().studio())
        self.assertIs(type(Console(studio=None).studio()), Studio)
        self.assertRaises(TypeError, Console, studio)

    def test_by_name(self):
        console = Console()
        self.assertEqual(console.run(line="names"), "none")
        self.assertEqual(console(line="names"), "none")

    def test_the_lines_of_a_text(self):
        console = Console()
        for line in write_studio(filled(*COMMANDS)).splitlines():
            self.assertEqual(console(line), "ok")
        self.assertEqual(write_studio(console.studio()), write_studio(filled(*COMMANDS)))
        self.assertEqual(console.studio().get("snake"), snake_scan(2))
        self.assertEqual(console.studio().get("rows"), Scan((1, 1)))


if __name__ == "__main__":
    unittest.main()

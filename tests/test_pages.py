"""The text of a studio, line by line, and studios that are read."""

import random
import unittest

from lookscan.errors import ParseError
from lookscan.makers import snake_scan
from lookscan.pages import read_studio, write_studio
from lookscan.scans import Scan
from lookscan.studio import Studio
from tests.checks import ScanCase
from tests.model import Model, Refused, random_command
from tests.reference import HUGE
from tests.test_studio import COMMANDS, PLACES, filled

LINES = [
    "scan rows 1 1 : places",
    "scan snake 2 1 : key 1 0 / 0 0 > fork ( 0 : places ) ( 1 : key 0 -1 / 0 0 > places )",
    "turned back snake",
    "then both rows back",
    "shifted moved snake 1 -2",
    "slanted oblique moved 1 1 , 0 1",
    "blocks tiles back 2 2",
]
TEXT = "".join(line + "\n" for line in LINES)


def drawn_studio(source):
    """A studio behind some drawn commands."""
    model, studio = Model(), Studio()
    for _ in range(30):
        command = random_command(source, model.definitions)
        try:
            model.apply_all(command)
        except Refused:
            continue
        studio.apply(command)
    return studio


class WriteTest(unittest.TestCase):
    def test_all_kinds_of_definitions(self):
        self.assertEqual(write_studio(filled(*COMMANDS)), TEXT)
        self.assertEqual(write_studio(studio=filled(*COMMANDS[:1])), LINES[0] + "\n")

    def test_the_empty_studio(self):
        self.assertEqual(write_studio(Studio()), "")

    def test_definitions_as_they_are_now(self):
        studio = filled(*COMMANDS)
        studio.apply_all(("rename", "snake", "s"), ("change", "s", (1, 1), ("key", (HUGE, 0), (-HUGE,), PLACES)))
        studio.apply_all(("drop", "both"), ("drop", "rows"))
        self.assertEqual(write_studio(studio), f"scan s 1 1 : key {HUGE} 0 / -{HUGE} > places\n"
                         "turned back s\nshifted moved s 1 -2\nslanted oblique moved 1 1 , 0 1\nblocks tiles back 2 2\n")

    def test_other_directions(self):
        studio = filled(("scan", "a", (12,), PLACES), ("shifted", "b", "a", (0,)), ("slanted", "c", "a", ((-1,),)),
                        ("blocks", "d", "a", (3,)), ("scan", "e", (1, 2, 1), PLACES),
                        ("slanted", "f", "e", ((1, 0, 0), (0, -1, 0), (5, 0, 1))), ("blocks", "g", "e", (1, 1, 2)))
        self.assertEqual(write_studio(studio).split("\n"), [
            "scan a 12 : places", "shifted b a 0", "slanted c a -1", "blocks d a 3", "scan e 1 2 1 : places",
            "slanted f e 1 0 0 , 0 -1 0 , 5 0 1", "blocks g e 1 1 2", ""])
        self.assertEqual(read_studio(write_studio(studio)), studio)


class ReadTest(ScanCase):
    def test_all_kinds_of_definitions(self):
        studio = read_studio(TEXT)
        self.assertIs(type(studio), Studio)
        self.assertEqual(studio, filled(*COMMANDS))
        self.assertEqual([studio.get(name) for name in studio.names()],
                         [filled(*COMMANDS).get(name) for name in studio.names()])
        self.assertEqual((studio.history(), studio.kept(), studio.computed, studio.limit), ((0, 0), [], 0, 12))
        self.assertIs(studio.busy, False)
        self.assertEqual(read_studio(text=TEXT), studio)
        studio.apply(("drop", "tiles"))
        self.assertEqual(studio.history(), (1, 0))

    def test_the_empty_text(self):
        studio = read_studio("")
        self.assertEqual((studio, studio.names(), studio.history()), (Studio(), [], (0, 0)))

    def test_drawn_studios(self):
        source = random.Random(801)
        for _ in range(60):
            studio = drawn_studio(source)
            text = write_studio(studio)
            self.assertEqual(read_studio(text), studio)
            self.assertEqual(write_studio(read_studio(text)), text)
            self.assertEqual(text.count("\n"), len(studio))

    def test_a_studio_with_steps_and_a_limit(self):
        studio = filled(*COMMANDS, limit=7)
        studio.boxes("rows", "snake", [(0, 1)])
        found = read_studio(write_studio(studio))
        self.assertEqual((found, found.limit, found.history(), found.kept()), (studio, 12, (0, 0), []))
        self.assertEqual((studio.limit, studio.history(), len(studio.kept())), (7, (1, 0), 1))

    def test_no_last_line_feed(self):
        self.assert_error(ParseError, read_studio, TEXT[:-1], line=6)
        self.assert_error(ParseError, read_studio, LINES[0], line=0)
        self.assert_error(ParseError, read_studio, TEXT + " ", line=7)
        self.assert_error(ParseError, read_studio, "x", line=0)

    def test_lines_of_no_form(self):
        for line in ["", " ", "scan", "scan a", "scan a 1", "scan a 1 :", "scan a 1 : place", "scan a 1 : places ",
                     " scan a 1 : places", "scan  a 1 : places", "Scan a 1 : places", "scan a b 1 : places", "turned a",
                     "turned a rows rows", "turned a rows ", "turned  a rows", "then a rows", "then a rows rows rows",
                     "shifted a rows", "shifted a rows 1 , 1", "shifted a rows x", "shifted a rows +1 1",
                     "shifted a rows 01 1", "shifted a rows -0 1", "slanted a rows", "slanted a rows 1 0 ,",
                     "slanted a rows , 1 0", "slanted a rows 1 0 0 1", "slanted a rows 1 0 , 0 1 ,", "blocks a rows",
                     "blocks a rows 2 , 2", "blocks a rows x", "change rows 1 1 : places", "rename rows r", "drop tiles",
                     "undo", "redo", "names", "show rows", "what", "#", "places", "blocks a rows 1 " + "1" * 31]:
            for at in range(len(LINES) + 1):
                if at > 0 or "rows" not in line:
                    self.assert_error(ParseError, read_studio, self.inserted(at, line), line=at)

    @staticmethod
    def inserted(at, line):
        return "".join(one + "\n" for one in [*LINES[:at], line, *LINES[at:]])

    def test_lines_whose_command_raises_an_error(self):
        for line in ["scan A 1 : places", "scan abcdefghi 1 : places", "scan rows 1 : places", "scan a 0 : places",
                     "scan a 13 : places", "scan a 1 : key 1 1 / 0 > places", "turned a no", "turned a a", "turned rows rows",
                     "then a rows no", "shifted a rows 1", "shifted a rows 1 1 1", "slanted a rows 2 0 , 0 1",
                     "slanted a rows 1", "blocks a rows 0 1", "blocks a rows 2", "blocks a rows 13 1", "turned 5 rows",
                     "turned , rows", "turned / >"]:
            for at in range(1, len(LINES) + 1):
                self.assert_error(ParseError, read_studio, self.inserted(at, line), line=at)

    def test_lines_repeated_exchanged_dropped(self):
        source = random.Random(802)
        for _ in range(200):
            lines = list(LINES)
            at, other = source.randrange(len(lines)), source.randrange(len(lines))
            choice = source.randrange(3)
            if choice == 0:
                lines.insert(source.randrange(len(lines) + 1), lines[at])
            elif choice == 1:
                lines[at], lines[other] = lines[other], lines[at]
            else:
                del lines[at]
            text = "".join(line + "\n" for line in lines)
            wanted = self.first_wrong(lines)
            if wanted is None:
                self.assertEqual(write_studio(read_studio(text)), text)
            else:
                self.assert_error(ParseError, read_studio, text, line=wanted)

    @staticmethod
    def first_wrong(lines):
        """The first line with a name that was there before, or that uses one that was not."""
        names = []
        for at, line in enumerate(lines):
            words = line.split(" ")
            used = {"scan": [], "then": words[2:4]}.get(words[0], words[2:3])
            if words[1] in names or not set(used) <= set(names):
                return at
            names.append(words[1])
        return None

    def test_the_first_wrong_line(self):
        self.assert_error(ParseError, read_studio, "x\ny\nz", line=0)
        self.assert_error(ParseError, read_studio, TEXT + "x\ny\nz", line=7)
        self.assert_error(ParseError, read_studio, LINES[0] + "\n" + LINES[0] + "\nx\nturned", line=1)
        self.assert_error(ParseError, read_studio, "\n", line=0)
        self.assert_error(ParseError, read_studio, TEXT + "\n", line=7)
        self.assert_error(ParseError, read_studio, "\n" + TEXT, line=0)
        self.assert_error(ParseError, read_studio, LINES[0] + "\n\n" + LINES[1] + "\n", line=1)

    def test_twelve_and_thirteen_scans(self):
        lines = [f"scan {letter} 1 : places\n" for letter in "abcdefghijklm"]
        self.assertEqual(len(read_studio("".join(lines[:12]))), 12)
        self.assert_error(ParseError, read_studio, "".join(lines), line=12)

    def test_read_once_more_and_other(self):
        one, other = read_studio(TEXT), read_studio(TEXT)
        one.apply(("drop", "tiles"))
        self.assertNotEqual(one, other)
        self.assertEqual(other.get("snake"), snake_scan(2))
        self.assertEqual(other.get("rows"), Scan((1, 1)))


if __name__ == "__main__":
    unittest.main()

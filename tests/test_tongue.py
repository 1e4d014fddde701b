"""The texts of scans, tables and rings, and which texts are parsed."""

import random
import unittest

from lookscan.errors import InvalidDivisors, InvalidLooks, InvalidTree, InvalidWords, ParseError, TooManyClasses
from lookscan.makers import blocks_scan, keys_scan, rows_scan, snake_scan
from lookscan.scans import Scan
from lookscan.solving import solve
from lookscan.tables import Table
from lookscan.tongue import format_ring, format_scan, format_table, parse_scan, parse_table
from tests.checks import ScanCase
from tests.reference import HUGE, all_divisors, all_forms, classes_in_order, random_looks, random_words

EXAMPLE = "2 1 : key 1 0 / 0 0 > fork ( 0 : places ) ( 1 : key 0 -1 / 0 0 > places )"
EXAMPLE_SCAN = Scan((2, 1), ("key", (1, 0), (0, 0), ("fork", (((0,), ("places",)), ((1,), ("key", (0, -1), (0, 0), ("places",)))))))
LONGEST = "9" * 30
NO_NUMBERS = ["+1", "-0", "00", "01", "-01", "-", "--1", "1-", "1.0", "1_0", "a", "0x1", "1e3", "", "1\n", "\n", "1,",
              ":", "/", LONGEST + "0", "-" + LONGEST + "0", "1" + "0" * 30, "True", "None"]


def text_of(tree):
    """The text of a tree, written down straight from [20]."""
    if tree[0] == "places":
        return "places"
    if tree[0] == "key":
        return "key " + " ".join(map(str, tree[1])) + " / " + " ".join(map(str, tree[2])) + " > " + text_of(tree[3])
    return "fork" + "".join(" ( " + " ".join(map(str, classes)) + " : " + text_of(inner) + " )"
                            for classes, inner in tree[1])


def keys_text(count):
    """The text of a tree with so many nodes one inside of another."""
    return "key 1 / 0 > " * (count - 1) + "places"


def forks_text(count):
    return "fork ( 0 : " * (count - 1) + "places" + " )" * (count - 1)


class FormatScanTest(unittest.TestCase):
    def test_scans_of_all_forms(self):
        source = random.Random(601)
        for scan in all_forms(Scan, source, 200):
            text = " ".join(map(str, scan.divisors)) + " : " + text_of(scan.tree)
            self.assertEqual(format_scan(scan), text)
            self.assertEqual(parse_scan(text), scan)

    def test_small_scans(self):
        self.assertEqual(format_scan(Scan((1,))), "1 : places")
        self.assertEqual(format_scan(Scan((3, 1, 4))), "3 1 4 : places")
        self.assertEqual(format_scan(EXAMPLE_SCAN), EXAMPLE)
        self.assertEqual(format_scan(Scan((1,), ("key", (-HUGE,), (0,), ("places",)))), f"1 : key -{HUGE} / 0 > places")
        self.assertEqual(format_scan(snake_scan(2)),
                         "2 1 : key 1 0 / 0 0 > fork ( 0 : places ) ( 1 : key 0 -1 / 0 0 > places )")
        self.assertEqual(format_scan(Scan((2,), ("fork", (((0, 1), ("places",)),)))), "2 : fork ( 0 1 : places )")

    def test_made_scans(self):
        for scan in [rows_scan(3), snake_scan(3), blocks_scan((3, 4)), keys_scan(2, ((4, -3), 2, 12)),
                     snake_scan(2).turned(), snake_scan(2).slanted(((1, 5), (0, -1))), snake_scan(2).shifted((-3, 7))]:
            self.assertEqual(parse_scan(format_scan(scan)), scan)

    def test_very_long_numbers(self):
        # Python writes no more than 4300 digits at once; returned numbers may be longer than passed ones.
        for number in [10 ** 64, 10 ** 64 - 1, -10 ** 64, 10 ** 128 + 5, -(10 ** 200) - 1, 123456789 ** 20, 10 ** 63]:
            scan = Scan((1,), ("key", (number,), (-number,), ("places",)))
            self.assertEqual(format_scan(scan), f"1 : key {number} / {-number} > places")
        far = 10 ** 5000
        text = format_scan(Scan((1,), ("key", (far,), (-far - 7,), ("places",))))
        self.assertEqual(text, "1 : key 1" + "0" * 5000 + " / -1" + "0" * 4999 + "7 > places")

    def test_by_name(self):
        self.assertEqual(format_scan(scan=Scan((1,))), "1 : places")
        self.assertEqual(parse_scan(text="1 : places"), Scan((1,)))
        self.assertEqual(format_table(table=Table((1,), [(1,)], ["f"])), "1 : 1 : f")
        self.assertEqual(parse_table(text="1 : 1 : f"), Table((1,), [(1,)], ["f"]))
        self.assertEqual(format_ring(ring=[(0, (1,), 2)]), "0 : 1 : 2")


class ParseScanTest(ScanCase):
    def assert_no_text(self, text):
        self.assert_error(ParseError, parse_scan, text, line=0)

    def test_signs_and_words_changed(self):
        source = random.Random(611)
        refused = 0
        words_to_draw = ["places", "key", "fork", "(", ")", ":", "/", ">", ",", "0", "1", "-1", "7", "x", ""]
        for scan in all_forms(Scan, source, 60, most=6):
            words = format_scan(scan).split(" ")
            for _ in range(15):
                changed = list(words)
                at = source.randrange(len(changed))
                choice = source.randrange(4)
                if choice == 0:
                    changed[at] = source.choice(words_to_draw)
                elif choice == 1:
                    del changed[at]
                elif choice == 2:
                    changed.insert(at, source.choice(words_to_draw))
                else:
                    other = source.randrange(len(changed))
                    changed[at], changed[other] = changed[other], changed[at]
                refused += self.assert_parsed_or_refused(" ".join(changed))
        self.assertGreater(refused, 300)

    def assert_parsed_or_refused(self, text):
        """A text that is parsed is the very text of its scan; otherwise it is refused by an error of Scan."""
        try:
            scan = parse_scan(text)
        except ParseError as error:
            self.assertEqual(error.line, 0)
            return True
        except (InvalidDivisors, TooManyClasses, InvalidTree):
            return False
        self.assertEqual(format_scan(scan), text)
        return False

    def test_texts_of_no_form(self):
        for text in ["", " ", "1", "1 :", ": places", "places", "1 places", "1 : place", "1 : Places", "1: places",
                     "1 :places", "1 : places ", " 1 : places", "1  : places", "1 :  places", "1 : places places",
                     "1 : places :", "1 : : places", "1 , 1 : places", "1 : key", "1 : key 1", "1 : key 1 /",
                     "1 : key 1 / 0", "1 : key 1 / 0 >", "1 : key / 0 > places", "1 : key 1 / > places",
                     "1 : key 1 0 > places", "1 : key 1 / 0 places", "1 : key 1 > 0 / places", "1 : key 1 / 0 > key",
                     "1 : key 1 / 0 > places > places", "1 : fork", "1 : fork places", "1 : fork ( 0 : places",
                     "1 : fork 0 : places )", "1 : fork ( 0 places )", "1 : fork ( : places )", "1 : fork ( 0 : )",
                     "1 : fork ( 0 : places ) )", "1 : fork ( ( 0 : places ) )", "1 : fork ( 0 : places ) places",
                     "1 : fork (0 : places)", "1 : fork ( 0 , 1 : places )", "1 : ( places )", "1 : places\n",
                     "1 :\nplaces", "1\n: places", "\n", "1 : key 1 / 0 > fork", "1 : fork ( 0 : fork ) ( 0 : places )",
                     "1 : fork ( 0 : fork ( 0 : places )", "1\t: places", "scan 1 : places"]:
            self.assert_no_text(text)

    def test_numbers(self):
        for word in NO_NUMBERS:
            self.assert_no_text(f"{word} : places")
            self.assert_no_text(f"1 : key {word} / 0 > places")
            self.assert_no_text(f"1 : key 1 / {word} > places")
            self.assert_no_text(f"1 : key 1 / 0 {word} > places")
            self.assert_no_text(f"1 : fork ( {word} : places )")
        for number in [0, 1, -1, 10, -10, int(LONGEST), -int(LONGEST), 10 ** 29]:
            scan = Scan((1,), ("key", (number,), (number,), ("places",)))
            self.assertEqual(parse_scan(f"1 : key {number} / {number} > places"), scan)

    def test_depth(self):
        for text in (keys_text, forks_text):
            self.assertEqual(format_scan(parse_scan("1 : " + text(20))), "1 : " + text(20))
            for count in (21, 22, 200):
                self.assert_no_text("1 : " + text(count))
        self.assert_no_text("1 : " + keys_text(10).replace("places", forks_text(12)))
        self.assertEqual(parse_scan("1 : " + keys_text(10).replace("places", forks_text(11))).nodes, 20)
        # Also where the numbers do not fit: it is not of the form first of all.
        self.assert_no_text("0 : " + keys_text(21))

    def test_the_longest_texts(self):
        self.assert_no_text("1 : " + "fork ( 0 : " * 1800)
        self.assert_no_text("1 : " + "key 1 / 0 > " * 1600 + "places")
        wide = "12 : fork " + " ".join(f"( {at} : " + "key 1 / 0 > " * 17 + "places )" for at in range(12))
        self.assert_error(InvalidTree, parse_scan, wide)
        self.assert_error(InvalidTree, parse_scan, "1 : fork " + " ".join(["( 0 : places )"] * 1300))

    def test_errors_of_scan(self):
        for text in ["0 : places", "-1 : places", "1 1 1 1 : places", "2 0 : key 1 / 0 > places", LONGEST + " 0 : places"]:
            self.assert_error(InvalidDivisors, parse_scan, text)
        for text in ["13 : places", "4 4 : places", LONGEST + " : places", "13 : key 1 / 0 > places"]:
            self.assert_error(TooManyClasses, parse_scan, text, limit=12)
        for text in ["1 : key 1 1 / 0 > places", "1 : key 1 / 0 0 > places", "2 : key 1 / 0 > places",
                     "2 : fork ( 0 : places )", "2 : fork ( 1 0 : places )", "2 : fork ( 0 0 1 : places )",
                     "2 : fork ( 0 1 : places ) ( 1 : places )", "2 : fork ( 0 : places ) ( 2 : places )",
                     "1 : fork ( -1 : places )", "1 : fork ( 0 : key 1 1 / 0 > places )"]:
            self.assert_error(InvalidTree, parse_scan, text)


class TableTextsTest(ScanCase):
    def test_drawn_tables(self):
        source = random.Random(621)
        for divisors in all_divisors(12):
            looks = random_looks(source, len(divisors), source.randint(1, 4))
            words = random_words(source, divisors, looks)
            table = Table(divisors, looks, words)
            text = " : ".join([" ".join(map(str, divisors)), " , ".join(" ".join(map(str, look)) for look in looks),
                               " ".join(words)])
            self.assertEqual(format_table(table), text)
            self.assertEqual(parse_table(text), table)

    def test_small_tables(self):
        self.assertEqual(format_table(Table((2,), [(1,), (-3,)], ["fu", "uu"])), "2 : 1 , -3 : fu uu")
        self.assertEqual(parse_table("2 : 1 , -3 : fu uu"), Table((2,), [(1,), (-3,)], ["fu", "uu"]))
        self.assertEqual(format_table(Table((1, 1), [(0, -9)], ["f"])), "1 1 : 0 -9 : f")

    def test_texts_of_no_form(self):
        for text in ["", " ", "2", "2 :", "2 : 1", "2 : 1 :", "2 : 1 : ", " 2 : 1 : f u", "2 : 1 : f u ", "2 : 1 : f  u",
                     "2  : 1 : f u", "2 :  1 : f u", ": 1 : f u", "2 : : f u", "2 : , : f u", "2 : 1 , : f u",
                     "2 : , 1 : f u", "2 : 1 , , 2 : ff uu", "2 : 1 ,2 : ff uu", "2 : 1 : f : u", "2 : 1 : : f u",
                     "2 : 1 : f u :", "2 : 1 : :", "2 1 f u", "2 : 1 f u", "2 , 1 : 1 : f u", "2 : 1 / 2 : f u", "\n"]:
            self.assert_error(ParseError, parse_table, text, line=0)
        for word in NO_NUMBERS:
            self.assert_error(ParseError, parse_table, f"{word} : 1 : f u", line=0)
            self.assert_error(ParseError, parse_table, f"2 : {word} : f u", line=0)
            self.assert_error(ParseError, parse_table, f"2 : 1 , {word} : ff uu", line=0)

    def test_errors_of_table(self):
        self.assert_error(InvalidDivisors, parse_table, "0 : 1 : f u")
        self.assert_error(InvalidDivisors, parse_table, "1 1 1 1 : 0 : x")
        self.assert_error(TooManyClasses, parse_table, "13 : 1 : f", limit=12)
        self.assert_error(TooManyClasses, parse_table, LONGEST + " : 0 : f", limit=12)
        for text, index in [("2 : 0 : f u", 0), ("2 : 10 : f u", 0), ("2 : 1 , 1 : f u", 1), ("2 : 1 , 2 0 : x x", 1),
                            ("2 1 : 1 : f u", 0), ("1 : 1 , 2 , 3 , 4 , 5 : fffff", 4), (f"1 : 2 , {LONGEST} : f", 1)]:
            self.assert_error(InvalidLooks, parse_table, text, index=index)
        for text, index in [("2 : 1 : f", 1), ("2 : 1 : f u f", 2), ("2 : 1 : f uu", 1), ("2 : 1 : F u", 0),
                            ("2 : 1 : , u", 0), ("2 : 1 : f /", 1), ("2 : 1 : f 5", 1), ("2 : 1 , 2 : fu f", 1),
                            ("1 : 1 : f\n", 0), ("1 : 1 : \n", 0), ("2 : 1 : places key", 0), ("2 : 1 : f (", 1)]:
            self.assert_error(InvalidWords, parse_table, text, index=index)

    def test_many_words(self):
        self.assert_error(InvalidWords, parse_table, "1 : 1 :" + " f" * 9000, index=1)


class RingTextsTest(unittest.TestCase):
    def test_rings(self):
        self.assertEqual(format_ring([(0, (-1,), 1), (0, (1,), 1)]), "0 : -1 : 1 , 0 : 1 : 1")
        self.assertEqual(format_ring([(11, (0, -9, 3), HUGE)]), f"11 : 0 -9 3 : {HUGE}")
        self.assertEqual(format_ring(((0, (2, 0), 3), (1, (0, 2), 5))), "0 : 2 0 : 3 , 1 : 0 2 : 5")
        self.assertEqual(format_ring([]), "")

    def test_it_looks_at_no_table(self):
        self.assertEqual(format_ring([(-5, (100,), 0), (-5, (100,), -1)]), "-5 : 100 : 0 , -5 : 100 : -1")

    def test_rings_of_solve(self):
        source = random.Random(631)
        found = 0
        while found < 40:
            divisors = source.choice(all_divisors(12))
            looks = random_looks(source, len(divisors), 4, 9)
            kind, ring = solve(Table(divisors, looks, random_words(source, divisors, looks)))
            if kind == "ring":
                found += 1
                copy = list(ring)
                parts = [part.split(" : ") for part in format_ring(ring).split(" , ")]
                again = [(int(number), tuple(map(int, look.split(" "))), int(count)) for number, look, count in parts]
                self.assertEqual(again, ring)
                self.assertEqual(ring, copy)
                self.assertLess(max(number for number, look, count in ring), len(classes_in_order(divisors)))


if __name__ == "__main__":
    unittest.main()

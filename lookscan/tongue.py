"""The texts of scans, tables and rings, and scans and tables of such texts."""

from lookscan.forms import SCAN_FORM, TABLE_FORM, number_text, numbers_text, read_values, values_text
from lookscan.scans import Scan
from lookscan.tables import Table


def format_scan(scan):
    """Return the text of a scan."""
    return values_text([scan.divisors, scan.tree], SCAN_FORM)


def format_table(table):
    """Return the text of a table."""
    return values_text([table.divisors, table.looks(), table.words()], TABLE_FORM)


def format_ring(ring):
    """Return the text of a ring, of whatever table."""
    texts = [f"{number_text(owner)} : {numbers_text(look)} : {number_text(count)}" for owner, look, count in ring]
    return " , ".join(texts)


def parse_scan(text):
    """Return the scan with a text."""
    divisors, tree = read_values(text.split(" "), SCAN_FORM)
    return Scan(divisors, tree)


def parse_table(text):
    """Return the table with a text."""
    divisors, looks, words = read_values(text.split(" "), TABLE_FORM)
    return Table(divisors, looks, words)

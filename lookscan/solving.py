"""A scan for a table, or a ring that shows that it has none."""

from lookscan.arcs import arc_column, hanging_groups, table_arcs, touched_classes
from lookscan.arithmetic import added, dot
from lookscan.balances import balance, shortened
from lookscan.errors import Unlike
from lookscan.looks import words_by
from lookscan.places import common_divisors
from lookscan.scans import Scan
from lookscan.trees import PLACES


def key_and_counts(arcs, classes):
    """Return a key's row and heights, as one tuple, and a count for each arc.

    By the key, no place comes before another one against an arc. The arcs at which it ties
    balance by their counts, which are above 0; the counts of all others are 0.
    """
    columns = [arc_column(arc, classes) for arc in arcs]
    total = (0,) * len(columns[0])
    counts, weights = balance(columns, [True] * len(arcs))
    while counts is None:
        total = added(total, weights)
        counts, weights = balance(columns, [dot(total, column) == 0 for column in columns])
    return total, counts


def ring_of(arcs, counts):
    """Return the ring of the arcs that have a count."""
    used = [count for count in counts if count > 0]
    owners = [(arc.owner, arc.look) for arc, count in zip(arcs, counts) if count > 0]
    return sorted([(owner, look, count) for (owner, look), count in zip(owners, shortened(used))])


def fork_tree(branches, class_total):
    """Return the fork of pairs of classes and trees, or the end if there is none.

    No arc reaches the fork from a class without a tree. Such a class has to be in some group,
    but it does not matter in which one.
    """
    if len(branches) == 0:
        return PLACES
    grouped = [number for classes, tree in branches for number in classes]
    others = [number for number in range(class_total) if number not in grouped]
    last, last_tree = branches[-1]
    groups = [(tuple(classes), tree) for classes, tree in branches[:-1]]
    groups.append((tuple(sorted(last + others)), last_tree))
    return ("fork", tuple(groups))


def key_tree(weights, classes, class_total, ends):
    """Return the key with a row and a height for each of some classes, as key_and_counts gives them, and ends."""
    directions = len(weights) - len(classes)
    heights = [0] * class_total
    for number, height in zip(classes, weights[directions:]):
        heights[number] = height
    return ("key", weights[:directions], tuple(heights), ends)


def solve_part(arcs, class_total):
    """Return ("tree", tree) with a tree that follows all the arcs, or ("ring", ring).

    Arcs at which the first key ties can be followed one group after another. Each further key
    within a group ties in fewer directions, so only a few keys and forks lie inside of one another.
    """
    classes = touched_classes(arcs)
    weights, counts = key_and_counts(arcs, classes)
    rest = [arc for arc, count in zip(arcs, counts) if count > 0]
    groups = hanging_groups(rest)
    if len(groups) == 1:
        return "ring", ring_of(arcs, counts)
    branches = []
    for group in groups:
        kind, found = solve_part([arc for arc in rest if arc.source in group], class_total)
        if kind == "ring":
            return kind, found
        branches.append((group, found))
    ends = fork_tree(branches, class_total)
    if len(rest) == len(arcs):
        return "tree", ends
    return "tree", key_tree(weights, classes, class_total, ends)


def solve(table):
    """Return ("scan", scan) with a scan that has the table, or ("ring", ring) with a ring of it."""
    kind, found = solve_part(table_arcs(table), len(table))
    if kind == "ring":
        return kind, found
    return "scan", Scan(table.divisors, found)


def has_table(scan, table):
    """Return whether a scan sees what the table says at every place."""
    if scan.directions != len(table.divisors):
        raise Unlike()
    divisors = common_divisors(scan.divisors, table.divisors)
    refined = table.refined(divisors)
    return words_by(scan, divisors, refined.looks()) == refined.words()

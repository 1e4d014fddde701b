"""Scans that are made by a rule: rows, snakes, floor keys, blocks and forks."""

from lookscan.arithmetic import dot, negated, product
from lookscan.errors import InvalidBox, InvalidCount, InvalidDivisors, InvalidTree, TooManyClasses, Unlike
from lookscan.matrices import identity, rest_divisors
from lookscan.places import MAX_CLASSES, MAX_DIRECTIONS
from lookscan.places import are_multiples, are_numbers, are_sides, check_divisors, is_number, place_at
from lookscan.scans import Scan
from lookscan.trees import PLACES, key_chain


def check_directions(directions):
    """Raise InvalidCount for a value that is not a number of directions."""
    if not is_number(directions) or not 1 <= directions <= MAX_DIRECTIONS:
        raise InvalidCount(directions)


def rows_scan(directions):
    """Return the scan that compares places as tuples."""
    check_directions(directions)
    return Scan((1,) * directions)


def classes_by_parity(divisors, parity):
    """Return the classes whose rests have a sum with this rest by 2."""
    return tuple([number for number in range(product(divisors)) if sum(place_at(divisors, number)) % 2 == parity])


def snake_scan(directions):
    """Return the scan by rows that goes back in the last direction where the other numbers have an odd sum."""
    check_directions(directions)
    if directions == 1:
        return Scan((1,))
    divisors = (2,) * (directions - 1) + (1,)
    classes = product(divisors)
    rows = identity(directions)
    backwards = key_chain([negated(rows[-1])], classes, PLACES)
    even = (classes_by_parity(divisors, 0), PLACES)
    odd = (classes_by_parity(divisors, 1), backwards)
    return Scan(divisors, key_chain(rows[:-1], classes, ("fork", (even, odd))))


def is_floor_key(value, directions):
    """Tell whether a value is a floor key for so many directions."""
    if not isinstance(value, tuple) or len(value) != 3:
        return False
    row, offset, divisor = value
    return are_numbers(row, directions) and is_number(offset) and is_number(divisor) and divisor >= 1


def floor_tree(keys, divisors):
    """Return the tree that compares by each floor key, the first one first.

    A key's number is the floor times the floor key's divisor: the row's sum and the offset
    without their rest, which the class tells.
    """
    tree = PLACES
    for row, offset, divisor in keys[::-1]:
        heights = []
        for number in range(product(divisors)):
            heights.append(offset - (dot(row, place_at(divisors, number)) + offset) % divisor)
        tree = ("key", row, tuple(heights), tree)
    return tree


def keys_scan(directions, *keys):
    """Return the scan that orders by floor keys, the first one first, and then by tuples."""
    check_directions(directions)
    for key in keys:
        if not is_floor_key(key, directions):
            raise InvalidTree()
    divisors = rest_divisors([key[0] for key in keys], [key[2] for key in keys], directions)
    check_divisors(divisors)
    if len(keys) >= Scan.MAX_DEPTH:
        raise InvalidTree()
    return Scan(divisors, floor_tree(keys, divisors))


def blocks_scan(sides, *, inner=None):
    """Return the scan that goes from block to block, and through each block by the scan inner or by rows."""
    if not are_sides(sides, 1):
        raise InvalidBox(sides)
    if product(sides) > MAX_CLASSES:
        raise TooManyClasses(MAX_CLASSES)
    keys = [(row, 0, side) for row, side in zip(identity(len(sides)), sides)]
    blocks = Scan(sides, floor_tree(keys, sides))
    if inner is None:
        return blocks
    return blocks.then(inner)


def forked_scan(divisors, *groups):
    """Return the scan that takes groups of classes one after another, each by its own scan."""
    check_divisors(divisors)
    branches = []
    for classes, scan in groups:
        if scan.directions != len(divisors):
            raise Unlike()
        if not are_multiples(divisors, scan.divisors):
            raise InvalidDivisors()
        branches.append((classes, scan.refined_tree(divisors, PLACES)))
    return Scan(divisors, ("fork", tuple(branches)))

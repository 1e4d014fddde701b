"""Slow and plain versions of what DOC.md says, and inputs for the tests."""

import itertools
import random

PLACES = ("places",)
HUGE = 10 ** 29 + 7


def classes_in_order(divisors):
    """All rests, ascending: the class with a number is the item at this index."""
    return sorted(itertools.product(*[range(divisor) for divisor in divisors]))


def class_number(divisors, place):
    rests = tuple(number % divisor for number, divisor in zip(place, divisors))
    return classes_in_order(divisors).index(rests)


def compare(divisors, tree, one, other):
    """-1, 0 or 1 for the order of two places, and whether they are tied, as [6] says it."""
    if tree[0] == "places":
        return (one > other) - (one < other), True
    kinds = [class_number(divisors, place) for place in (one, other)]
    if tree[0] == "key":
        row, heights = tree[1], tree[2]
        first, second = [
            sum(a * b for a, b in zip(row, place)) + heights[kind] for place, kind in zip((one, other), kinds)
        ]
        inner = tree[3]
    else:
        first, second = [
            [at for at, group in enumerate(tree[1]) if kind in group[0]][0] for kind in kinds
        ]
        inner = tree[1][first][1]
    if first != second:
        return (first > second) - (first < second), False
    return compare(divisors, inner, one, other)


def before(scan, one, other):
    return compare(scan.divisors, scan.tree, one, other)[0] < 0


def tied(scan, one, other):
    return compare(scan.divisors, scan.tree, one, other)[1]


def plus(one, other):
    return tuple(a + b for a, b in zip(one, other))


def product(matrix, place):
    return tuple(sum(a * b for a, b in zip(row, place)) for row in matrix)


def count_classes(divisors):
    return len(classes_in_order(divisors))


def keys(count, divisors=(1,)):
    """A tree with this many keys, one inside of another, and places."""
    tree = PLACES
    for at in range(count):
        tree = ("key", (at,) * len(divisors), (0,) * count_classes(divisors), tree)
    return tree


def fork(*trees):
    """A fork with a group for each tree: class 0, class 1 and so on."""
    return ("fork", tuple(((at,), tree) for at, tree in enumerate(trees)))


def shape(tree, end=PLACES):
    """The kinds of the nodes, without the numbers, with end instead of each places."""
    if tree[0] == "places":
        return end
    if tree[0] == "key":
        return ("key", shape(tree[3], end))
    return ("fork", tuple(shape(inner, end) for classes, inner in tree[1]))


def chain_shape(directions):
    found = PLACES
    for _ in range(directions):
        found = ("key", found)
    return found


def random_groups(source, classes):
    numbers = list(range(classes))
    source.shuffle(numbers)
    count = source.randint(1, classes)
    groups = [[number] for number in numbers[:count]]
    for number in numbers[count:]:
        source.choice(groups).append(number)
    return [tuple(sorted(group)) for group in groups]


def random_tree(source, divisors, depth=3):
    classes = count_classes(divisors)
    choice = source.randint(0, 4) if depth > 0 else 0
    if choice == 0:
        return PLACES
    if choice <= 2:
        row = tuple(source.randint(-2, 2) for _ in divisors)
        heights = tuple(source.randint(-3, 3) for _ in range(classes))
        return ("key", row, heights, random_tree(source, divisors, depth - 1))
    groups = random_groups(source, classes)
    return ("fork", tuple((group, random_tree(source, divisors, depth - 1)) for group in groups))


DIVISORS = [(1,), (2,), (3,), (1, 1), (2, 1), (1, 2), (2, 2), (3, 1), (2, 3), (1, 1, 1), (2, 1, 1), (1, 2, 2), (2, 1, 3)]


def random_scans(scan_class, seed, count):
    """Scans of many forms, the same ones at each run."""
    source = random.Random(seed)
    for at in range(count):
        divisors = DIVISORS[at % len(DIVISORS)]
        yield scan_class(divisors, random_tree(source, divisors))


def random_places(source, directions, reach):
    return tuple(source.randint(-reach, reach) for _ in range(directions))


def random_pairs(directions, seed, count):
    """Pairs of places near zero, far away, far away but near one another, and equal."""
    source = random.Random(seed)
    for at in range(count):
        reach = 4 if at % 4 != 3 else HUGE
        one = random_places(source, directions, reach)
        other = random_places(source, directions, reach)
        if at % 4 == 1:
            far = random_places(source, directions, HUGE)
            one, other = plus(one, far), plus(other, far)
        if at % 12 == 2:
            other = one
        yield one, other


def random_matrix(source, directions):
    """A matrix with the determinant 1 or -1, by steps that keep it so."""
    rows = [[int(at == to) for to in range(directions)] for at in range(directions)]
    for _ in range(source.randint(0, 4)):
        one = source.randrange(directions)
        other = source.randrange(directions)
        if one == other:
            rows[one] = [-number for number in rows[one]]
        else:
            factor = source.randint(-2, 2)
            rows[one] = [a + factor * b for a, b in zip(rows[one], rows[other])]
    source.shuffle(rows)
    return tuple(tuple(row) for row in rows)


NOT_TUPLES = [None, True, False, 0, 1, -5, "", "places", "key"]

"""Slow and plain versions of what DOC.md says, and inputs for the tests."""

import functools
import itertools
import math
import random

PLACES = ("places",)
HUGE = 10 ** 29 + 7


@functools.lru_cache(maxsize=None)
def rests_in_order(divisors):
    return sorted(itertools.product(*[range(divisor) for divisor in divisors]))


def classes_in_order(divisors):
    """All rests, ascending: the class with a number is the item at this index."""
    return list(rests_in_order(divisors))


def class_number(divisors, place):
    rests = tuple(number % divisor for number, divisor in zip(place, divisors))
    return classes_in_order(divisors).index(rests)


def compare(divisors, tree, one, other):
    """-1, 0 or 1 for the order of two places, and whether they are tied, as [6] says it."""
    if tree[0] == "places":
        return (one > other) - (one < other), True
    kinds = [class_number(divisors, place) for place in (one, other)]
    if tree[0] == "key":
        row, heights = tree[1], tree[2]
        first, second = [
            sum(a * b for a, b in zip(row, place)) + heights[kind] for place, kind in zip((one, other), kinds)
        ]
        inner = tree[3]
    else:
        first, second = [
            [at for at, group in enumerate(tree[1]) if kind in group[0]][0] for kind in kinds
        ]
        inner = tree[1][first][1]
    if first != second:
        return (first > second) - (first < second), False
    return compare(divisors, inner, one, other)


def before(scan, one, other):
    return compare(scan.divisors, scan.tree, one, other)[0] < 0


def tied(scan, one, other):
    return compare(scan.divisors, scan.tree, one, other)[1]


def plus(one, other):
    return tuple(a + b for a, b in zip(one, other))


def product(matrix, place):
    return tuple(sum(a * b for a, b in zip(row, place)) for row in matrix)


def count_classes(divisors):
    return len(classes_in_order(divisors))


def common(one, other):
    """The common divisors of [11]."""
    return tuple(math.lcm(a, b) for a, b in zip(one, other))


def minus(place):
    return tuple(-number for number in place)


def keys(count, divisors=(1,)):
    """A tree with this many keys, one inside of another, and places."""
    tree = PLACES
    for at in range(count):
        tree = ("key", (at,) * len(divisors), (0,) * count_classes(divisors), tree)
    return tree


def fork(*trees):
    """A fork with a group for each tree: class 0, class 1 and so on."""
    return ("fork", tuple(((at,), tree) for at, tree in enumerate(trees)))


def shape(tree, end=PLACES):
    """The kinds of the nodes, without the numbers, with end instead of each places."""
    if tree[0] == "places":
        return end
    if tree[0] == "key":
        return ("key", shape(tree[3], end))
    return ("fork", tuple(shape(inner, end) for classes, inner in tree[1]))


def chain_shape(directions):
    found = PLACES
    for _ in range(directions):
        found = ("key", found)
    return found


def random_groups(source, classes):
    numbers = list(range(classes))
    source.shuffle(numbers)
    count = source.randint(1, classes)
    groups = [[number] for number in numbers[:count]]
    for number in numbers[count:]:
        source.choice(groups).append(number)
    return [tuple(sorted(group)) for group in groups]


def random_tree(source, divisors, depth=3):
    classes = count_classes(divisors)
    choice = source.randint(0, 4) if depth > 0 else 0
    if choice == 0:
        return PLACES
    if choice <= 2:
        row = tuple(source.randint(-2, 2) for _ in divisors)
        heights = tuple(source.randint(-3, 3) for _ in range(classes))
        return ("key", row, heights, random_tree(source, divisors, depth - 1))
    groups = random_groups(source, classes)
    return ("fork", tuple((group, random_tree(source, divisors, depth - 1)) for group in groups))


DIVISORS = [(1,), (2,), (3,), (1, 1), (2, 1), (1, 2), (2, 2), (3, 1), (2, 3), (1, 1, 1), (2, 1, 1), (1, 2, 2), (2, 1, 3)]


def random_scans(scan_class, seed, count):
    """Scans of many forms, the same ones at each run."""
    source = random.Random(seed)
    for at in range(count):
        divisors = DIVISORS[at % len(DIVISORS)]
        yield scan_class(divisors, random_tree(source, divisors))


def random_places(source, directions, reach):
    return tuple(source.randint(-reach, reach) for _ in range(directions))


def random_pairs(directions, seed, count):
    """Pairs of places near zero, far away, far away but near one another, and equal."""
    source = random.Random(seed)
    for at in range(count):
        reach = 4 if at % 4 != 3 else HUGE
        one = random_places(source, directions, reach)
        other = random_places(source, directions, reach)
        if at % 4 == 1:
            far = random_places(source, directions, HUGE)
            one, other = plus(one, far), plus(other, far)
        if at % 12 == 2:
            other = one
        yield one, other


def random_matrix(source, directions):
    """A matrix with the determinant 1 or -1, by steps that keep it so."""
    rows = [[int(at == to) for to in range(directions)] for at in range(directions)]
    for _ in range(source.randint(0, 4)):
        one = source.randrange(directions)
        other = source.randrange(directions)
        if one == other:
            rows[one] = [-number for number in rows[one]]
        else:
            factor = source.randint(-2, 2)
            rows[one] = [a + factor * b for a, b in zip(rows[one], rows[other])]
    source.shuffle(rows)
    return tuple(tuple(row) for row in rows)


NOT_TUPLES = [None, True, False, 0, 1, -5, "", "places", "key"]


def all_divisors(most=12):
    """All divisors with 1 to 3 directions and at most so many classes."""
    found = []
    for directions in (1, 2, 3):
        for divisors in itertools.product(range(1, most + 1), repeat=directions):
            if math.prod(divisors) <= most:
                found.append(divisors)
    return found


def random_scan(scan_class, source, divisors, depth=3):
    """A scan with a drawn tree of not too many nodes."""
    while True:
        tree = random_tree(source, divisors, depth)
        if count_nodes(tree) <= 200:
            return scan_class(divisors, tree)


def count_nodes(tree):
    if tree[0] == "places":
        return 1
    if tree[0] == "key":
        return 1 + count_nodes(tree[3])
    return 1 + sum(count_nodes(inner) for classes, inner in tree[1])


def random_looks(source, directions, count, reach=9):
    """So many different looks."""
    found = []
    while len(found) < count:
        look = random_places(source, directions, reach)
        if any(look) and look not in found:
            found.append(look)
    return found


def random_words(source, divisors, looks):
    return ["".join(source.choice("fu") for _ in looks) for _ in classes_in_order(divisors)]


def seen_words(scan, looks):
    """The words of the table of a scan, as [8] and [9] say it."""
    found = []
    for rests in classes_in_order(scan.divisors):
        found.append("".join("f" if before(scan, plus(rests, look), rests) else "u" for look in looks))
    return found


def arc(table, number, look):
    """The classes from and to which the arc of a class and a look leads, and its step, as [12] says it."""
    word = table.words()[number]
    rests = classes_in_order(table.divisors)[number]
    neighbour = class_number(table.divisors, plus(rests, look))
    if word[table.looks().index(look)] == "f":
        return neighbour, number, minus(look)
    return number, neighbour, look


def ring_fault(table, ring):
    """None for a ring of the table, otherwise the point of [12] that does not hold."""
    if not isinstance(ring, list) or not ring:
        return "a list of one or more"
    pairs = [(number, look) for number, look, count in ring]
    if pairs != sorted(set(pairs)):
        return "ascending, each pair at most once"
    if not all(type(item) is tuple and type(item[2]) is int and item[2] >= 1 for item in ring):
        return "tuples with counts from 1 on"
    balance = {}
    total = (0,) * len(table.divisors)
    touching = {}
    for number, look, count in ring:
        source, target, step = arc(table, number, look)
        balance[source] = balance.get(source, 0) - count
        balance[target] = balance.get(target, 0) + count
        total = plus(total, tuple(count * part for part in step))
        touching.setdefault(source, set()).add(target)
        touching.setdefault(target, set()).add(source)
    if any(balance.values()):
        return "as many to each class as from it"
    if any(total):
        return "the sum of the steps"
    return None if hang_together(touching) else "hang together"


def hang_together(touching):
    reached = [min(touching)]
    for number in reached:
        reached.extend(sorted(touching[number] - set(reached)))
    return set(reached) == set(touching)


def arc_steps(table, ring):
    """How often a walk must go along each (class from, step), by the counts of a ring."""
    found = {}
    for number, look, count in ring:
        source, target, step = arc(table, number, look)
        found[source, step] = found.get((source, step), 0) + count
    return found


def cells_of(box):
    return sorted(itertools.product(*[range(side) for side in box]))


def random_box(source, directions, most=60):
    """A box with at most so many cells, now and then without any."""
    while True:
        box = tuple(source.randint(0, most // directions) for _ in range(directions))
        if math.prod(box) <= most and (math.prod(box) > 0 or source.random() < 0.05):
            return box


def random_rule(source, looks):
    modulus = source.choice([2, 3, 7, 10, 1000, 999983, 1000000])
    reach = source.choice([2, 20, HUGE])
    weights = tuple(source.randint(-reach, reach) for _ in looks)
    return (modulus, source.randint(-reach, reach), weights, source.randint(-reach, reach),
            source.randint(-reach, reach))


def random_values(source, rule, box):
    return [source.randrange(rule[0]) for _ in cells_of(box)]


def new_value(looks, rule, standing, cell):
    """What a cell gets, as [15] says it; standing has what stands at each cell now."""
    modulus, own, weights, constant, edge = rule
    total = own * standing[cell] + constant
    for look, weight in zip(looks, weights):
        total += weight * standing.get(plus(cell, look), edge)
    return total % modulus


def plain_fill(scan, looks, box, rule, begun):
    """Filling cell by cell: each time the cell that comes before all others that are left."""
    left = cells_of(box)
    standing = dict(zip(left, begun))
    key = functools.cmp_to_key(lambda one, other: compare(scan.divisors, scan.tree, one, other)[0])
    for cell in sorted(left, key=key):
        standing[cell] = new_value(looks, rule, standing, cell)
    return [standing[cell] for cell in left]


def all_forms(scan_class, source, count, most=12):
    """Drawn scans with all divisors, one after another."""
    every = all_divisors(most)
    source.shuffle(every)
    for at in range(count):
        yield random_scan(scan_class, source, every[at % len(every)], source.choice([1, 2, 3]))

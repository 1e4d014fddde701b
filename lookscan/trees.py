"""Trees: their form, the numbers by which they order places, and trees made of them."""

from lookscan.arithmetic import added, dot, negated, product
from lookscan.errors import InvalidTree
from lookscan.matrices import row_times, times
from lookscan.places import are_numbers, class_at, place_at

PLACES = ("places",)


def is_ascending(value):
    """Tell whether a value is an ascending tuple of one or more numbers."""
    if not isinstance(value, tuple) or len(value) == 0:
        return False
    if not are_numbers(value, len(value)):
        return False
    return all([before < after for before, after in zip(value, value[1:])])


def are_groups(value, classes):
    """Tell whether a value is a tuple of pairs that has each class in exactly one of them."""
    if not isinstance(value, tuple):
        return False
    grouped = []
    for group in value:
        if not isinstance(group, tuple) or len(group) != 2 or not is_ascending(group[0]):
            return False
        grouped.extend(group[0])
    return sorted(grouped) == list(range(classes))


def is_key(node, directions, classes):
    """Tell whether a tuple is a key, whatever its tree is."""
    if len(node) != 4 or node[0] != "key":
        return False
    return are_numbers(node[1], directions) and are_numbers(node[2], classes)


def is_fork(node, classes):
    """Tell whether a tuple is a fork, whatever its trees are."""
    return len(node) == 2 and node[0] == "fork" and are_groups(node[1], classes)


def inner_trees(node, directions, classes):
    """Return the trees directly inside of a node; raise InvalidTree if it is not a node."""
    if not isinstance(node, tuple):
        raise InvalidTree()
    if node == PLACES:
        return []
    if is_key(node, directions, classes):
        return [node[3]]
    if is_fork(node, classes):
        return [group[1] for group in node[1]]
    raise InvalidTree()


def count_nodes(tree, divisors, most_nodes, most_depth):
    """Return how many nodes a tree has; raise InvalidTree if it is not one within the limits.

    It stops at the first node beyond a limit, because a tree whose parts occur several times
    can have more nodes than could ever be counted.
    """
    classes = product(divisors)
    nodes = 0
    waiting = [(tree, 1)]
    while len(waiting) > 0:
        node, depth = waiting.pop()
        nodes += 1
        if nodes > most_nodes or depth > most_depth:
            raise InvalidTree()
        for inner in inner_trees(node, len(divisors), classes):
            waiting.append((inner, depth + 1))
    return nodes


def group_index(groups, number):
    """Return the index of the group that has a class."""
    return [number in group[0] for group in groups].index(True)


def tree_path(tree, divisors, place):
    """Return the numbers of a place at the keys and forks, from the outside to the inside."""
    number = class_at(divisors, place)
    path = []
    while tree[0] != "places":
        if tree[0] == "key":
            path.append(dot(tree[1], place) + tree[2][number])
            tree = tree[3]
        else:
            at = group_index(tree[1], number)
            path.append(at)
            tree = tree[1][at][1]
    return tuple(path)


def key_chain(rows, classes, ends):
    """Return a tree that compares by each row, the first one first, at any class, and then by ends."""
    chain = ends
    for row in rows[::-1]:
        chain = ("key", row, (0,) * classes, chain)
    return chain


def turned_tree(tree, ends):
    """Return the tree that decides the other way, with ends in place of each end."""
    if tree[0] == "places":
        return ends
    if tree[0] == "key":
        return ("key", negated(tree[1]), negated(tree[2]), turned_tree(tree[3], ends))
    return ("fork", tuple([(classes, turned_tree(inner, ends)) for classes, inner in tree[1][::-1]]))


def source_classes(divisors, matrix, place, new_divisors):
    """Return, for each class by the new divisors, the class of the matrix times its places, plus a place."""
    sources = []
    for number in range(product(new_divisors)):
        moved = added(times(matrix, place_at(new_divisors, number)), place)
        sources.append(class_at(divisors, moved))
    return sources


def moved_classes(classes, sources):
    """Return the classes whose sources are among the given classes."""
    return tuple([number for number, source in enumerate(sources) if source in classes])


def moved_tree(tree, matrix, sources, ends):
    """Return the tree that decides about z as the given one does about the matrix times z, plus a place.

    The sources say which class that is for each class of z, and the ends take the place of each
    end. What the place adds to a key's number is the same for every z, so it is left out.
    """
    if tree[0] == "places":
        return ends
    if tree[0] == "key":
        heights = tuple([tree[2][source] for source in sources])
        return ("key", row_times(tree[1], matrix), heights, moved_tree(tree[3], matrix, sources, ends))
    groups = []
    for classes, inner in tree[1]:
        groups.append((moved_classes(classes, sources), moved_tree(inner, matrix, sources, ends)))
    return ("fork", tuple(groups))

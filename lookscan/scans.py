"""Scans: orders of all places of a grid, and scans made of them."""

from lookscan.arithmetic import negated
from lookscan.errors import InvalidMatrix, InvalidPlace, Unlike
from lookscan.matrices import identity, is_matrix, rest_divisors
from lookscan.places import cells, check_box, check_multiples, check_place, class_count, common_divisors
from lookscan.trees import PLACES, count_nodes, key_chain, moved_tree, source_classes, tree_path, turned_tree


class Scan:
    """An order of all places, by divisors and a tree."""

    MAX_DEPTH = 20
    MAX_NODES = 200

    def __init__(self, divisors, tree=("places",)):
        self.class_total = class_count(divisors)
        self.node_total = count_nodes(tree, divisors, Scan.MAX_NODES, Scan.MAX_DEPTH)
        self.own_divisors = divisors
        self.own_tree = tree

    @property
    def divisors(self):
        return self.own_divisors

    @property
    def tree(self):
        return self.own_tree

    @property
    def directions(self):
        return len(self.own_divisors)

    @property
    def nodes(self):
        return self.node_total

    def __eq__(self, other):
        return isinstance(other, Scan) and self.own_divisors == other.own_divisors and self.own_tree == other.own_tree

    def __repr__(self):
        return f"Scan({self.class_total} classes, {self.node_total} nodes)"

    def __call__(self, one, other):
        """Return whether one place comes before the other one."""
        return self.path(one) < self.path(other)

    def tied(self, one, other):
        """Return whether two places have the same numbers at all keys and forks."""
        directions = len(self.own_divisors)
        first = self.path(one)
        second = self.path(other)
        return first[:-directions] == second[:-directions]

    def path(self, place):
        """Return the numbers by which a place is compared.

        Paths can be compared as tuples: they go through the same nodes up to the first fork
        at which they differ, and from there on they no longer matter.
        """
        check_place(place, len(self.own_divisors))
        return tree_path(self.own_tree, self.own_divisors, place) + place

    def order(self, box):
        """Return the cells of a box in the order of the scan."""
        check_box(box, len(self.own_divisors))
        found = list(cells(box))
        return sorted(found, key=self.path)

    def rank(self, box, place):
        """Return how many cells of a box come before one of its cells."""
        ordered = self.order(box)
        check_place(place, len(self.own_divisors))
        if place not in ordered:
            raise InvalidPlace(place)
        return ordered.index(place)

    def refined(self, divisors):
        """Return the scan with the same order and with multiples of the divisors."""
        check_multiples(divisors, self.own_divisors)
        return Scan(divisors, self.refined_tree(divisors, PLACES))

    def refined_tree(self, divisors, ends):
        """Return the tree for multiples of the divisors, with ends in place of each end."""
        directions = len(self.own_divisors)
        return self.changed_tree(divisors, identity(directions), (0,) * directions, ends)

    def changed_tree(self, divisors, matrix, place, ends):
        """Return the tree by other divisors that decides about the matrix times a place, plus a place."""
        sources = source_classes(self.own_divisors, matrix, place, divisors)
        return moved_tree(self.own_tree, matrix, sources, ends)

    def turned(self):
        """Return the opposite scan."""
        rows = [negated(row) for row in identity(len(self.own_divisors))]
        ends = key_chain(rows, self.class_total, PLACES)
        return Scan(self.own_divisors, turned_tree(self.own_tree, ends))

    def shifted(self, place):
        """Return the scan that orders z as this one orders z plus the place."""
        directions = len(self.own_divisors)
        check_place(place, directions)
        return Scan(self.own_divisors, self.changed_tree(self.own_divisors, identity(directions), place, PLACES))

    def slanted(self, matrix):
        """Return the scan that orders z as this one orders the product of the matrix and z."""
        directions = len(self.own_divisors)
        if not is_matrix(matrix, directions):
            raise InvalidMatrix()
        divisors = rest_divisors(matrix, self.own_divisors, directions)
        ends = key_chain(matrix, class_count(divisors), PLACES)
        return Scan(divisors, self.changed_tree(divisors, matrix, (0,) * directions, ends))

    def then(self, other):
        """Return the scan that orders by this one, and by the other one where this one ties."""
        if len(self.own_divisors) != len(other.own_divisors):
            raise Unlike()
        divisors = common_divisors(self.own_divisors, other.own_divisors)
        ends = other.refined_tree(divisors, PLACES)
        # There may be too many classes here: Scan refuses them before it looks at the tree.
        return Scan(divisors, self.refined_tree(divisors, ends))

"""Boxes that are filled by a rule, cell by cell or by waves, and what the cells see."""

from lookscan.arithmetic import added, dot
from lookscan.errors import InvalidRule, InvalidValues
from lookscan.looks import checked_looks, words_by
from lookscan.places import are_numbers, cells, check_box, class_at, is_number
from lookscan.waves import waves

MAX_MODULUS = 1000000
RULE_LENGTH = 5


def check_rule(rule, look_count):
    """Raise InvalidRule for a tuple that is not a rule for so many looks."""
    if len(rule) != RULE_LENGTH:
        raise InvalidRule(len(rule))
    modulus, own, weights, constant, edge = rule
    fitting = [
        is_number(modulus) and 2 <= modulus <= MAX_MODULUS,
        is_number(own),
        are_numbers(weights, look_count),
        is_number(constant),
        is_number(edge),
    ]
    if False in fitting:
        raise InvalidRule(fitting.index(False))


def check_values(begun, modulus, cell_count):
    """Raise InvalidValues for a list that does not have a rest by the modulus for each of so many cells."""
    for index, value in enumerate(begun):
        if index >= cell_count or not is_number(value) or not 0 <= value < modulus:
            raise InvalidValues(index)
    if len(begun) < cell_count:
        raise InvalidValues(len(begun))


def checked_cells(box, directions):
    """Return the cells of a box, ascending; raise the errors for a value that is not a box of few enough cells."""
    check_box(box, directions)
    return list(cells(box))


class Board:
    """The cells of a box with their values, and the rule by which they get new ones."""

    def __init__(self, scan, looks, box, rule, begun):
        self.own_looks = checked_looks(looks, scan.directions)
        places = checked_cells(box, scan.directions)
        check_rule(rule, len(self.own_looks))
        check_values(begun, rule[0], len(places))
        self.rule = rule
        self.worths = dict(zip(places, begun))

    def standing(self, place):
        """Return what stands at a place: the value of a cell, or the edge."""
        return self.worths[place] if place in self.worths else self.rule[4]

    def new_value(self, cell):
        """Return the value that a cell would get now."""
        modulus, own, weights, constant, edge = self.rule
        seen = [self.standing(added(cell, look)) for look in self.own_looks]
        return (own * self.worths[cell] + dot(weights, seen) + constant) % modulus

    def put(self, chosen, values):
        """Give cells these values."""
        for cell, value in zip(chosen, values):
            self.worths[cell] = value

    def fill_at_once(self, chosen):
        """Give cells their new values, after all of them have looked, and return the old ones."""
        old = [self.worths[cell] for cell in chosen]
        self.put(chosen, [self.new_value(cell) for cell in chosen])
        return old

    def listed(self):
        """Return the list of all values, in ascending order of the cells."""
        return list(self.worths.values())


def fill(scan, looks, box, rule, begun):
    """Return the values after all cells were filled in the order of the scan."""
    board = Board(scan, looks, box, rule, begun)
    for cell in scan.order(box):
        board.fill_at_once([cell])
    return board.listed()


def fill_by_waves(scan, looks, box, rule, begun):
    """Return the values after all cells were filled by the waves of the scan."""
    board = Board(scan, looks, box, rule, begun)
    for wave in waves(scan, looks, box):
        board.fill_at_once(wave)
    return board.listed()


def views(scan, looks, box):
    """Return, for each cell, what the scan sees at each look, or `-` where the neighbour is not in the box."""
    checked = checked_looks(looks, scan.directions)
    places = checked_cells(box, scan.directions)
    inside = {cell: True for cell in places}
    words = words_by(scan, scan.divisors, checked)
    found = []
    for place in places:
        word = words[class_at(scan.divisors, place)]
        found.append("".join([seen if added(place, look) in inside else "-" for look, seen in zip(checked, word)]))
    return found

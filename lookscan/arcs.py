"""The arcs of a table: which places must come before which other ones."""

from lookscan.arithmetic import added, negated
from lookscan.places import class_at, place_at


class Arc:
    """An arc of a class and a look, which leads from the class source to the class target by a step."""

    def __init__(self, owner, look, source, target, step):
        self.owner = owner
        self.look = look
        self.source = source
        self.target = target
        self.stride = step


def arc_at(divisors, owner, look, letter):
    """Return the arc of a class at a look at which its word has this letter."""
    neighbour = class_at(divisors, added(place_at(divisors, owner), look))
    if letter == "f":
        return Arc(owner, look, neighbour, owner, negated(look))
    return Arc(owner, look, owner, neighbour, look)


def table_arcs(table):
    """Return all arcs of a table."""
    looks = table.looks()
    found = []
    for owner, word in enumerate(table.words()):
        for look, letter in zip(looks, word):
            found.append(arc_at(table.divisors, owner, look, letter))
    return found


def arc_column(arc, classes):
    """Return the step of an arc, and what it does to each class: it leaves one and reaches one."""
    changes = [int(number == arc.target) - int(number == arc.source) for number in classes]
    return arc.stride + tuple(changes)


def touched_classes(arcs):
    """Return the ascending list of the classes from or to which an arc leads."""
    return sorted({number for arc in arcs for number in (arc.source, arc.target)})


def hanging_groups(arcs):
    """Return the ascending lists of the touched classes that hang together by arcs, in either direction."""
    groups = [[number] for number in touched_classes(arcs)]
    for arc in arcs:
        joined = [group for group in groups if arc.source in group or arc.target in group]
        apart = [group for group in groups if arc.source not in group and arc.target not in group]
        groups = apart + [sorted([number for group in joined for number in group])]
    return sorted(groups)

"""Rings of a table: closed walks of places, each of which must come before the next one."""

from lookscan.arcs import arc_at, arc_column, hanging_groups, touched_classes
from lookscan.arithmetic import added
from lookscan.errors import InvalidRing, TooLong
from lookscan.looks import is_look
from lookscan.places import is_number, place_at

MAX_RING = 2000


def is_entry(table, entry):
    """Tell whether a value is a class and a look of a table, with a count."""
    if not isinstance(entry, tuple) or len(entry) != 3:
        return False
    owner, look, count = entry
    if not is_number(owner) or not 0 <= owner < len(table):
        return False
    if not is_look(look, len(table.divisors)) or look not in table.looks():
        return False
    return is_number(count) and count >= 1


def are_entries(table, ring):
    """Tell whether a list has one or more entries of a table, ascending, each class and look at most once."""
    if len(ring) == 0 or not all([is_entry(table, entry) for entry in ring]):
        return False
    pairs = [entry[:2] for entry in ring]
    return all([before < after for before, after in zip(pairs, pairs[1:])])


def ring_arcs(table, ring):
    """Return the arcs of the entries of a table."""
    looks = table.looks()
    words = table.words()
    return [arc_at(table.divisors, owner, look, words[owner][looks.index(look)]) for owner, look, count in ring]


def are_balanced(arcs, counts):
    """Tell whether arcs, as often as their counts say, lead back to their classes and to the same place."""
    classes = touched_classes(arcs)
    columns = [arc_column(arc, classes) for arc in arcs]
    sums = [sum([number * count for number, count in zip(line, counts)]) for line in zip(*columns)]
    return not any(sums)


def is_ring(table, ring):
    """Return whether a list is a ring of a table."""
    if not are_entries(table, ring):
        return False
    arcs = ring_arcs(table, ring)
    return are_balanced(arcs, [entry[2] for entry in ring]) and len(hanging_groups(arcs)) == 1


def leaving_arc(arcs, left, number):
    """Return the index of the first arc from a class that is left to go along, or None."""
    for at, arc in enumerate(arcs):
        if arc.source == number and left[at] > 0:
            return at
    return None


def closed_walk(arcs, counts):
    """Return the arcs in the order of a closed walk that goes along each one as often as its count says.

    The walk goes on until it is back at its beginning with nothing left there. Then it is taken
    back, and where something is left, another closed walk is put in (Hierholzer's way).
    """
    left = list(counts)
    total = sum(left)
    walked = []
    backwards = []
    here = arcs[0].source
    while len(backwards) < total:
        at = leaving_arc(arcs, left, here)
        if at is None:
            arc = walked.pop()
            backwards.append(arc)
            here = arc.source
        else:
            left[at] -= 1
            walked.append(arcs[at])
            here = arcs[at].target
    return backwards[::-1]


def lifted(places, divisors):
    """Return the places, moved as little as keeps their classes and leaves no negative number."""
    lows = [min(numbers) for numbers in zip(*places)]
    lift = tuple([low % divisor - low for low, divisor in zip(lows, divisors)])
    return [added(place, lift) for place in places]


def ring_cells(table, ring):
    """Return the places of a closed walk that goes along each arc of a ring as often as its count says."""
    if not is_ring(table, ring):
        raise InvalidRing()
    counts = [entry[2] for entry in ring]
    if sum(counts) > MAX_RING:
        raise TooLong(MAX_RING)
    walk = closed_walk(ring_arcs(table, ring), counts)
    place = place_at(table.divisors, walk[0].source)
    places = []
    for arc in walk:
        places.append(place)
        place = added(place, arc.stride)
    return lifted(places, table.divisors)


def ring_box(table, ring):
    """Return the least box that has all the places of ring_cells."""
    places = ring_cells(table, ring)
    return tuple([max(numbers) + 1 for numbers in zip(*places)])

"""Waves: the fewest steps in which a box can be filled as a scan fills it."""

from lookscan.arithmetic import added, negated
from lookscan.looks import checked_looks
from lookscan.places import check_place


def earliest_wave(earlier, looks, cell):
    """Return the earliest wave of a cell, and the cell that does not allow an earlier one, or None.

    The earlier cells are those that come before this one, with what this function returned for
    them. A cell waits for the wave behind that of each earlier cell that it sees, because that
    one must be filled. An earlier cell that sees this one must only look before this one is
    filled, so both may be in one wave.
    """
    wave = 0
    reason = None
    for look in looks:
        seen = added(cell, look)
        if seen in earlier and earlier[seen][0] + 1 > wave:
            wave = earlier[seen][0] + 1
            reason = seen
        seeing = added(cell, negated(look))
        if seeing in earlier and earlier[seeing][0] > wave:
            wave = earlier[seeing][0]
            reason = seeing
    return wave, reason


def earliest_waves(scan, looks, box):
    """Return, for each cell of a box, what earliest_wave says of it."""
    checked = checked_looks(looks, scan.directions)
    found = {}
    for cell in scan.order(box):
        found[cell] = earliest_wave(found, checked, cell)
    return found


def waves(scan, looks, box):
    """Return the waves, each the ascending list of its cells."""
    found = earliest_waves(scan, looks, box)
    count = max([wave + 1 for wave, reason in found.values()], default=0)
    grouped = [[] for number in range(count)]
    for cell in sorted(list(found)):
        grouped[found[cell][0]].append(cell)
    return grouped


def wave_count(scan, looks, box):
    """Return the number of waves."""
    return len(waves(scan, looks, box))


def wave_chain(scan, looks, box):
    """Return a chain of cells of the box that needs as many waves as the box."""
    found = earliest_waves(scan, looks, box)
    if len(found) == 0:
        return []
    cell = max(list(found), key=lambda place: found[place][0])
    backwards = []
    while cell is not None:
        backwards.append(cell)
        cell = found[cell][1]
    return backwards[::-1]


def chain_waves(scan, looks, chain):
    """Return how many waves a chain of places needs, or None if it is not a chain."""
    checked = checked_looks(looks, scan.directions)
    for place in chain:
        check_place(place, scan.directions)
    if len(chain) == 0:
        return 0
    needed = 1
    for one, other in zip(chain, chain[1:]):
        ahead = added(other, negated(one))
        behind = negated(ahead)
        if behind in checked:
            needed += 1
        elif ahead not in checked:
            return None
        if not scan(one, other):
            return None
    return needed

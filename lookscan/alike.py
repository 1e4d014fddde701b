"""Where two scans order neighbouring places differently, and the boxes in which this matters."""

from lookscan.arithmetic import added, product
from lookscan.errors import Unlike
from lookscan.looks import checked_looks, word_at
from lookscan.places import check_box, common_divisors, place_at


def unlike(one, other, looks):
    """Return the unlike entries of two scans, ascending by rests and then in the order of the looks."""
    if one.directions != other.directions:
        raise Unlike()
    checked = checked_looks(looks, one.directions)
    divisors = common_divisors(one.divisors, other.divisors)
    found = []
    for number in range(product(divisors)):
        rests = place_at(divisors, number)
        mine = word_at(one, checked, rests)
        yours = word_at(other, checked, rests)
        found.extend([(rests, look) for look, first, second in zip(checked, mine, yours) if first != second])
    return found


def least_number(rest, divisor, step):
    """Return the least number from 0 on with this rest that does not become negative by the step."""
    least = max(0, -step)
    return least + (rest - least) % divisor


def unlike_cells(one, other, looks):
    """Return, for each unlike entry, its least cell and the neighbour of this cell.

    The cell is least in each direction by itself, so it is the first one in each box that has
    a cell with these rests and its neighbour at all.
    """
    entries = unlike(one, other, looks)
    divisors = common_divisors(one.divisors, other.divisors)
    found = []
    for rests, look in entries:
        cell = tuple([least_number(rest, divisor, step) for rest, divisor, step in zip(rests, divisors, look)])
        found.append((cell, added(cell, look)))
    return found


def least_box(cell, neighbour):
    """Return the least box that has both cells."""
    return tuple([max(numbers) + 1 for numbers in zip(cell, neighbour)])


def is_as_wide(box, other):
    """Tell whether a box is at least as wide as another one."""
    return all([side >= least for side, least in zip(box, other)])


def unlike_boxes(one, other, looks):
    """Return the ascending list of the least boxes in which two scans differ."""
    boxes = sorted({least_box(cell, neighbour) for cell, neighbour in unlike_cells(one, other, looks)})
    found = []
    # A box can only be as wide as one that comes before it, so each one is compared with those found.
    for box in boxes:
        if not any([is_as_wide(box, least) for least in found]):
            found.append(box)
    return found


def always_alike(one, other, looks):
    """Return whether two scans fill all boxes alike."""
    return len(unlike(one, other, looks)) == 0


def alike_in(one, other, looks, box):
    """Return whether two scans fill a box alike."""
    return parting(one, other, looks, box) is None


def parting(one, other, looks, box):
    """Return the first cell of a box with a neighbour that is ordered differently, and this neighbour, or None."""
    pairs = unlike_cells(one, other, looks)
    check_box(box, one.directions)
    found = None
    for cell, neighbour in pairs:
        # The entries of one cell come in the order of the looks, so the first one stays.
        if is_as_wide(box, least_box(cell, neighbour)) and (found is None or cell < found[0]):
            found = (cell, neighbour)
    return found

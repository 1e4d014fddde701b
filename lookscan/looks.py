"""Looks, and what a scan sees at them."""

from lookscan.arithmetic import added, product
from lookscan.errors import InvalidLooks
from lookscan.places import are_numbers, place_at

MAX_LOOKS = 4
MAX_REACH = 9


def is_look(value, directions):
    """Tell whether a value is a look with so many directions."""
    if not are_numbers(value, directions):
        return False
    return 1 <= max([abs(number) for number in value]) <= MAX_REACH


def checked_looks(looks, directions):
    """Return the tuple of the looks; raise InvalidLooks if they are not 1 to 4 different looks."""
    if not isinstance(looks, (list, tuple)):
        raise InvalidLooks(0)
    seen = set()
    for index, look in enumerate(looks):
        if not is_look(look, directions) or look in seen:
            raise InvalidLooks(index)
        seen.add(look)
    if len(looks) > MAX_LOOKS:
        raise InvalidLooks(MAX_LOOKS)
    if len(looks) == 0:
        raise InvalidLooks(0)
    return tuple(looks)


def word_at(scan, looks, place):
    """Return what a scan sees at a place, with a character for each look."""
    own = scan.path(place)
    return "".join(["f" if scan.path(added(place, look)) < own else "u" for look in looks])


def words_by(scan, divisors, looks):
    """Return what a scan sees at each class by multiples of its divisors, however many there are."""
    return [word_at(scan, looks, place_at(divisors, number)) for number in range(product(divisors))]

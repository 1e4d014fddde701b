"""Places, boxes with their cells, and the classes of places by divisors."""

from lookscan.arithmetic import least_multiple, product
from lookscan.errors import InvalidBox, InvalidDivisors, InvalidPlace, TooManyCells, TooManyClasses

MAX_DIRECTIONS = 3
MAX_CLASSES = 12
MAX_CELLS = 2000


def is_number(value):
    """Tell whether a value is a number; True and False are none."""
    return isinstance(value, int) and not isinstance(value, bool)


def are_numbers(value, count):
    """Tell whether a value is a tuple of so many numbers."""
    if not isinstance(value, tuple) or len(value) != count:
        return False
    return all([is_number(item) for item in value])


def are_sides(value, least):
    """Tell whether a value is a tuple of 1 to 3 numbers that are not below the least one."""
    if not isinstance(value, tuple) or not 1 <= len(value) <= MAX_DIRECTIONS:
        return False
    return are_numbers(value, len(value)) and min(value) >= least


def check_place(place, directions):
    """Raise the error for a value that is not a place with so many directions."""
    if not are_numbers(place, directions):
        raise InvalidPlace(place)


def check_box(box, directions):
    """Raise the error for a value that is not a box with so many directions."""
    if not are_sides(box, 0) or len(box) != directions:
        raise InvalidBox(box)


def check_divisors(divisors):
    """Raise the errors for a value that is not divisors with few enough classes."""
    if not are_sides(divisors, 1):
        raise InvalidDivisors()
    if product(divisors) > MAX_CLASSES:
        raise TooManyClasses(MAX_CLASSES)


def common_divisors(one, other):
    """Return the least common multiples of two divisors with as many directions."""
    return tuple([least_multiple(first, second) for first, second in zip(one, other)])


def are_multiples(divisors, others):
    """Tell whether divisors have the directions of others and are multiples of them."""
    if len(divisors) != len(others):
        return False
    return all([divisor % other == 0 for divisor, other in zip(divisors, others)])


def check_multiples(divisors, others):
    """Raise the errors for a value that is not divisors, or not multiples of others."""
    check_divisors(divisors)
    if not are_multiples(divisors, others):
        raise InvalidDivisors()


def place_at(sides, number):
    """Return the place that so many cells of a box with these sides precede."""
    backwards = []
    for side in sides[::-1]:
        backwards.append(number % side)
        number = number // side
    return tuple(backwards[::-1])


def class_at(divisors, place):
    """Return the number of the class of a place, both known to be valid."""
    number = 0
    for divisor, step in zip(divisors, place):
        number = number * divisor + step % divisor
    return number


def cells(box):
    """Yield the cells of a box, ascending."""
    if not are_sides(box, 0):
        raise InvalidBox(box)
    total = product(box)
    if total > MAX_CELLS:
        raise TooManyCells(MAX_CELLS)
    for number in range(total):
        yield place_at(box, number)


def class_count(divisors):
    """Return the number of classes by the divisors."""
    check_divisors(divisors)
    return product(divisors)


def class_of(divisors, place):
    """Return the number of the class of a place."""
    check_divisors(divisors)
    check_place(place, len(divisors))
    return class_at(divisors, place)


def rests_of(divisors, number):
    """Return the rests of the class with this number."""
    total = class_count(divisors)
    if not is_number(number) or not 0 <= number < total:
        raise InvalidPlace(number)
    return place_at(divisors, number)

"""Sums and products of tuples of numbers, and common divisors and multiples."""


def dot(row, place):
    """Return the sum of the products of the numbers of both."""
    return sum([one * other for one, other in zip(row, place)])


def added(one, other):
    """Return the tuple of the sums."""
    return tuple([first + second for first, second in zip(one, other)])


def negated(numbers):
    """Return the numbers with all signs changed."""
    return tuple([-number for number in numbers])


def product(numbers):
    """Return the product of all numbers."""
    total = 1
    for number in numbers:
        total = total * number
    return total


def greatest_divisor(one, other):
    """Return the greatest common divisor of two numbers, which are not both 0."""
    one = abs(one)
    other = abs(other)
    while other != 0:
        one, other = other, one % other
    return one


def least_multiple(one, other):
    """Return the least common multiple of two numbers from 1 on."""
    return one * other // greatest_divisor(one, other)

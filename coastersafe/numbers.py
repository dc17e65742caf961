"""Whole numbers and intervals of them."""

from math import isqrt

from coastersafe.errors import BadNumber


def divided_down(number, divisor):
    """The quotient, rounded down."""
    if divisor < 1:
        raise BadNumber("a divisor must be at least 1")
    return number // divisor


def divided_up(number, divisor):
    """The quotient, rounded up."""
    return -divided_down(-number, divisor)


def root_down(number):
    """The greatest integer whose square is at most the number."""
    if number < 0:
        raise BadNumber("a negative number has no root")
    return isqrt(number)


def root_up(number):
    """The least integer of at least 0 whose square is at least the number."""
    root = root_down(number)
    if root * root < number:
        return root + 1
    return root


def is_interval(pair):
    """Whether a tuple of integers is an interval."""
    return len(pair) == 2 and pair[0] <= pair[1]


def added(first, second):
    """The interval of all sums of an element of each."""
    return (first[0] + second[0], first[1] + second[1])


def hull(first, second):
    """The least interval that has both."""
    return (min(first[0], second[0]), max(first[1], second[1]))


def common(first, second):
    """The interval of the integers in both, or None if there is none."""
    both = (max(first[0], second[0]), min(first[1], second[1]))
    if is_interval(both):
        return both
    return None

"""Whole numbers within bounds, and fractions in lowest terms."""

from growurns.errors import NoNumber


def is_number(thing):
    """Tell whether a thing is a whole number."""
    # True and False are ints to Python, but no whole numbers here.
    return isinstance(thing, int) and not isinstance(thing, bool)


def is_whole(thing, low, high):
    """Tell whether a thing is a whole number from low to high."""
    return is_number(thing) and low <= thing <= high


def are_wholes(thing, low, high):
    """Tell whether a thing is a tuple of whole numbers from low to high, perhaps of none."""
    return isinstance(thing, tuple) and all([is_whole(part, low, high) for part in thing])


def need_number(thing, low, high):
    """Refuse what is no whole number from low to high."""
    if not is_whole(thing, low, high):
        raise NoNumber(f"not a whole number from {low} to {high}")


def greatest_divisor(one, other):
    """The greatest whole number that divides both; one of them is not 0."""
    while other != 0:
        one, other = other, one % other
    return abs(one)


def fraction(top, bottom):
    """The fraction of two whole numbers, the bottom from 1 on, in lowest terms."""
    divisor = greatest_divisor(top, bottom)
    return (top // divisor, bottom // divisor)


def is_fraction(thing):
    """Tell whether a thing is a fraction in lowest terms."""
    if not isinstance(thing, tuple) or len(thing) != 2:
        return False
    if not is_number(thing[0]) or not is_number(thing[1]):
        return False
    return thing[1] >= 1 and greatest_divisor(thing[0], thing[1]) == 1


def plus(one, other):
    """The sum of two fractions."""
    return fraction(one[0] * other[1] + other[0] * one[1], one[1] * other[1])


def times(one, other):
    """The product of two fractions."""
    return fraction(one[0] * other[0], one[1] * other[1])


def minus(one, other):
    """The first fraction less the other one."""
    return plus(one, (-other[0], other[1]))


def total(fractions):
    """The sum of a list or tuple of fractions, perhaps of none."""
    so_far = (0, 1)
    for part in fractions:
        so_far = plus(so_far, part)
    return so_far

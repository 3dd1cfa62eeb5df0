"""FRACTIONS: pairs of NUMBERS that can't be cut, reckoned exactly."""

from math import gcd

from twicecalls.kinds import is_number, is_row


def is_fraction(thing):
    """Whether a thing is a FRACTION."""
    if not is_row(thing, 2):
        return False
    over, under = thing
    return is_number(over) and is_number(under) and under > 0 and gcd(over, under) == 1


def fraction_of(over, under):
    """The FRACTION that is over of so many under."""
    both = gcd(over, under)
    return (over // both, under // both)


def plus(one, other):
    """The sum of two FRACTIONS."""
    return fraction_of(one[0] * other[1] + other[0] * one[1], one[1] * other[1])


def times(one, other):
    """The product of two FRACTIONS."""
    return fraction_of(one[0] * other[0], one[1] * other[1])


def minus(one, other):
    """What one has more than other, None where it has less."""
    over = one[0] * other[1] - other[0] * one[1]
    if over < 0:
        return None
    return fraction_of(over, one[1] * other[1])


def is_less(one, other):
    """Whether one is less than other."""
    return one[0] * other[1] < other[0] * one[1]


def lesser(one, other):
    """The lesser one of two FRACTIONS."""
    return other if is_less(other, one) else one


def total_of(fractions):
    """All FRACTIONS of a tuple, added."""
    total = (0, 1)
    for fraction in fractions:
        total = plus(total, fraction)
    return total

"""ALLOWANCES and TAKINGS that several tests hand in, and what comes of them by Python's own fractions."""

import itertools
import random
from fractions import Fraction

from twicecalls.fractions import fraction_of, is_less

ALLOWANCES = (((1, 2), (2, 1)), ((0, 1), (0, 1)), ((0, 1), (3, 2)), ((1, 3), (1, 1)), ((5, 2), (2, 1)),
              ((2, 3), (1, 2)), ((1, 1), (3, 1)))
ROWS = [row for many in range(6) for row in itertools.product(("first", "more"), repeat=many)]


def begins(allowance):
    return [None, (0, 1), allowance[1]] + [part for part in ((1, 2), (1, 1)) if not is_less(allowance[1], part)]


def many_takings():
    """ALLOWANCES, TAKINGS and begins: all short ones, and long ones that fit for long."""
    for allowance in ALLOWANCES:
        for row in ROWS:
            for begin in begins(allowance):
                yield allowance, row, begin
    chance = random.Random(16)
    for _ in range(150):
        allowance = (fraction_of(chance.randrange(1, 30), 20), fraction_of(chance.randrange(10, 60), 10))
        often = chance.choice((0.2, 0.4, 0.5))
        row = tuple("more" if chance.random() < often else "first" for _ in range(chance.randrange(40)))
        yield allowance, row, chance.choice((None, (0, 1), (1, 1)))


def plain_ledger(allowance, takings, begin):
    rate, most = Fraction(*allowance[0]), Fraction(*allowance[1])
    purse, told = most if begin is None else Fraction(*begin), []
    for word in takings:
        purse = min(purse + rate, most) if word == "first" else purse - 1
        if purse < 0:
            return None
        told.append((purse.numerator, purse.denominator))
    return tuple(told)


def plain_overdrafts(allowance, takings, begin):
    """All OVERDRAFTS: every pair is tried."""
    rate, most = Fraction(*allowance[0]), Fraction(*allowance[1])
    first = most if begin is None else Fraction(*begin)
    return [(low, high) for low in range(len(takings)) for high in range(low, len(takings))
            if takings[low:high + 1].count("more")
            > rate * takings[low:high + 1].count("first") + (most if low else first)]

"""A checker: whether a paper is AMOUNTS of a TREE and a WHOLE. It seeks nothing."""

from twicecalls.errors import NoPaper
from twicecalls.fractions import is_fraction, is_less, plus, total_of
from twicecalls.kinds import are_numbers, is_row
from twicecalls.trees import need, parts_of, places_in, trees_in


def lets_split(tree, whole, thing):
    """True where a thing is AMOUNTS of the TREE and the WHOLE."""
    if not _has_shape(thing):
        raise NoPaper("shape", -1)
    if tuple([place for place, amount in thing]) != places_in(tree):
        raise NoPaper("places", -1)
    amounts = {place: amount for place, amount in thing}
    if amounts[()] != (whole, 1):
        raise NoPaper("whole", -1)
    for place, part in trees_in(tree):
        if is_less(amounts[place], (need(part), 1)):
            raise NoPaper("need", place)
        inner = [amounts[place + (k,)] for k in range(len(parts_of(part)))]
        if _is_too_much(part, amounts[place], inner):
            raise NoPaper("sum", place)
    return True


def _has_shape(thing):
    return isinstance(thing, tuple) and all([_is_entry(part) for part in thing])


def _is_entry(thing):
    return is_row(thing, 2) and are_numbers(thing[0]) and is_fraction(thing[1])


def _is_too_much(tree, amount, inner):
    """Whether the AMOUNTS of a TREE's parts, travel added, come to more than its own."""
    if tree[0] == "work":
        return False
    travel = (2 * tree[1], 1)
    each = [plus(other, travel) for other in inner]
    if tree[0] == "then":
        return is_less(amount, total_of(tuple(each)))
    return any([is_less(amount, other) for other in each])

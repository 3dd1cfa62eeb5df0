"""TIMINGS: what the calls of a TREE took, when each began and ended, and what was over its bound."""

from twicecalls.fractions import is_less
from twicecalls.kinds import is_number, is_number_row, is_row
from twicecalls.trees import trees_in


def is_timing(tree, thing):
    """Whether a thing is a TIMING of a TREE, whatever its bounds."""
    if tree[0] == "work":
        return is_row(thing, 2) and thing[0] == "work" and is_number(thing[1])
    if not is_row(thing, 3) or thing[0] != tree[0]:
        return False
    _, travels, parts = thing
    many = len(tree[2])
    if not is_row(travels, many) or not is_row(parts, many):
        return False
    if not all([is_number_row(travel, 2) for travel in travels]):
        return False
    return all([is_timing(part, one) for part, one in zip(tree[2], parts)])


def took(timing):
    """What a TIMING TOOK in all."""
    if timing[0] == "work":
        return timing[1]
    each = [sum(travel) + took(part) for travel, part in zip(timing[1], timing[2])]
    return sum(each) if timing[0] == "then" else max(each)


def moments(timing, begin=0):
    """All PLACES with the MOMENTS at which they begin and end, rising."""
    return tuple(_moments(timing, begin, ()))


def over(tree, timing):
    """The works and travels that TOOK more than their bounds, rising."""
    return tuple(sorted(_over(tree, timing, ())))


def slow(timing, amounts):
    """The PLACES that TOOK more than their AMOUNTS, rising."""
    amount_at = {place: amount for place, amount in amounts}
    # A TIMING has the form of its TREE, so its parts are found as those of a TREE are.
    return tuple([place for place, part in trees_in(timing) if is_less(amount_at[place], (took(part), 1))])


def travels_over(tree, timing):
    """A list of the travels that TOOK more than told, ("there", k), ("back", k), of a TREE that is no work."""
    found = []
    for k, (there, back) in enumerate(timing[1]):
        if there > tree[1]:
            found.append(("there", k))
        if back > tree[1]:
            found.append(("back", k))
    return found


def _moments(timing, begin, place):
    rows = [(place, begin, begin + took(timing))]
    if timing[0] == "work":
        return rows
    at = begin
    for k, part in enumerate(timing[2]):
        there, back = timing[1][k]
        rows.extend(_moments(part, at + there, place + (k,)))
        if timing[0] == "then":
            at = at + there + took(part) + back
    return rows


def _over(tree, timing, place):
    if tree[0] == "work":
        return [("work", place)] if timing[1] > tree[1] else []
    rows = [(word, place + (k,)) for word, k in travels_over(tree, timing)]
    for k, part in enumerate(tree[2]):
        rows.extend(_over(part, timing[2][k], place + (k,)))
    return rows

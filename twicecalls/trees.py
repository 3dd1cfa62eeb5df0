"""TREES of calls within calls, their PLACES and what each NEEDS.

The PLACE () is all of a TREE; where p is a PLACE, p with k behind is its part number k.
"""

from twicecalls.errors import NoKey
from twicecalls.kinds import are_numbers, is_number, is_row


def is_tree(thing):
    """Whether a thing is a TREE, whatever its bounds."""
    if is_row(thing, 2):
        return thing[0] == "work" and is_number(thing[1])
    if not is_row(thing, 3) or thing[0] not in ("then", "beside"):
        return False
    _, travel, parts = thing
    return is_number(travel) and isinstance(parts, tuple) and len(parts) > 0 and all([is_tree(part) for part in parts])


def places_in(tree):
    """All PLACES, rising."""
    return tuple([place for place, part in trees_in(tree)])


def part_at(tree, place):
    """The TREE at a PLACE."""
    if not are_numbers(place):
        raise NoKey(place)
    part = tree
    for k in place:
        parts = parts_of(part)
        if k >= len(parts):
            raise NoKey(place)
        part = parts[k]
    return part


def need(tree):
    """What a TREE NEEDS at least, where no bound is broken."""
    if tree[0] == "work":
        return tree[1]
    each = [need(part) for part in tree[2]]
    if tree[0] == "then":
        return sum(each) + 2 * tree[1] * len(each)
    return max(each) + 2 * tree[1]


def needs(tree):
    """All PLACES with their NEEDS, rising."""
    return tuple([(place, need(part)) for place, part in trees_in(tree)])


def parts_of(tree):
    """The TREES straight within a TREE, none of a work."""
    return () if tree[0] == "work" else tree[2]


def trees_in(tree, place=()):
    """A list of all PLACES with the TREES there; a PLACE ahead of its parts is how tuples rise."""
    rows = [(place, tree)]
    for k, part in enumerate(parts_of(tree)):
        rows.extend(trees_in(part, place + (k,)))
    return rows

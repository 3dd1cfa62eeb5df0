"""A WHOLE SPLIT among the calls of a TREE, and when each is DUE by it."""

from twicecalls.errors import NoSetting
from twicecalls.fractions import fraction_of, minus, plus, times, total_of
from twicecalls.trees import need, parts_of, trees_in


def split(tree, whole, weights=None):
    """The AMOUNTS to which a TREE and a WHOLE are SPLIT, by WEIGHTS."""
    if whole < need(tree):
        raise NoSetting("whole")
    weights = () if weights is None else weights
    weight_at = {place: weight for place, weight in weights}
    amount_at = {(): (whole, 1)}
    rows = trees_in(tree)
    for place, part in rows:
        inner = _inner_amounts(place, part, amount_at[place], weight_at)
        for k, amount in enumerate(inner):
            amount_at[place + (k,)] = amount
    return tuple([(place, amount_at[place]) for place, part in rows])


def dues(tree, amounts):
    """All PLACES with their DUE moments, rising."""
    amount_at = {place: amount for place, amount in amounts}
    due_at = {(): amount_at[()]}
    rows = trees_in(tree)
    for place, part in rows:
        inner = [amount_at[place + (k,)] for k in range(len(parts_of(part)))]
        for k, due in enumerate(_inner_dues(part, due_at[place], inner)):
            due_at[place + (k,)] = due
    return tuple([(place, due_at[place]) for place, part in rows])


def _inner_amounts(place, tree, amount, weight_at):
    """What each part of the TREE at a PLACE has of the TREE's own AMOUNT."""
    parts = parts_of(tree)
    if tree[0] != "then":
        return [minus(amount, (2 * tree[1], 1)) for part in parts]
    least = [need(part) for part in parts]
    weights = [weight_at.get(place + (k,), worth) for k, worth in enumerate(least)]
    if sum(weights) == 0:
        weights = [1 for part in parts]
    above = minus(amount, (need(tree), 1))
    shares = [times(above, fraction_of(weight, sum(weights))) for weight in weights]
    return [plus((worth, 1), share) for worth, share in zip(least, shares)]


def _inner_dues(tree, due, amounts):
    """When each part of a TREE is DUE that is DUE itself then; amounts are the parts' own."""
    if tree[0] == "work":
        return []
    last = minus(due, (tree[1], 1))
    if tree[0] == "beside":
        return [last for amount in amounts]
    behind = (0, 1)
    moments = []
    for amount in reversed(amounts):
        moments.append(minus(last, behind))
        behind = total_of((behind, amount, (2 * tree[1], 1)))
    return moments[::-1]

"""BLAMES: who was late, shown on a way of PLACES, and a checker of them."""

from twicecalls.errors import NoPaper
from twicecalls.kinds import are_numbers, is_number, is_row
from twicecalls.timing import took, travels_over
from twicecalls.trees import need, parts_of


def blame(tree, timing):
    """A BLAME, None where all of it TOOK no more than its NEED."""
    if not _is_late(tree, timing):
        return None
    way = [()]
    while tree[0] != "work":
        travels = travels_over(tree, timing)
        if travels:
            return (tuple(way), travels[0])
        # Where no travel is OVER, some part has TOOK more than its NEED: else this PLACE hadn't.
        k = _late_part(tree, timing)
        way.append(way[len(way) - 1] + (k,))
        tree, timing = tree[2][k], timing[2][k]
    return (tuple(way), "work")


def lets_blame(tree, timing, thing):
    """True where a thing is a BLAME of a TREE and a TIMING. It seeks nothing."""
    if not _has_shape(thing):
        raise NoPaper("shape", -1)
    way, word = thing
    ahead = None
    for j, place in enumerate(way):
        if not _goes_on(tree, ahead, place):
            raise NoPaper("way", j)
        if j > 0:
            tree, timing = tree[2][place[j - 1]], timing[2][place[j - 1]]
        if not _is_late(tree, timing):
            raise NoPaper("took", j)
        ahead = place
    if not _is_so(tree, timing, word):
        raise NoPaper("word", -1)
    return True


def _is_late(tree, timing):
    return took(timing) > need(tree)


def _late_part(tree, timing):
    late = [k for k, part in enumerate(tree[2]) if _is_late(part, timing[2][k])]
    return late[0]


def _has_shape(thing):
    if not is_row(thing, 2) or not isinstance(thing[0], tuple):
        return False
    return len(thing[0]) > 0 and all([are_numbers(place) for place in thing[0]])


def _goes_on(tree, ahead, place):
    """Whether a PLACE goes on behind the one ahead, at which the TREE is; ahead is None at first."""
    if ahead is None:
        return place == ()
    many = len(ahead)
    return len(place) == many + 1 and place[:many] == ahead and place[many] < len(parts_of(tree))


def _is_so(tree, timing, word):
    if tree[0] == "work":
        return word == "work"
    # A truth is no number of a part, though Python takes it for one.
    return is_row(word, 2) and is_number(word[1]) and word in travels_over(tree, timing)

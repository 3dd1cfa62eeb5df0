"""Things that several tests hand in."""

import random

HUGE = 10 ** 200 - 1


def nested(depth, rows=tuple):
    """So many tuples, or lists, within one another."""
    thing = rows()
    for _ in range(depth - 1):
        thing = rows([thing])
    return thing


# Things of every form that any thing may have; a test leaves out those that are what it asks for.
ODD_THINGS = (
    True, False, None, -1, -HUGE, 0, 1, HUGE,
    "", " ", "a b", "A", "1", "a", "first", "tick", "late", "done", "~", "two\nlines", "x" * 4000,
    (), [], ((),), [[]], ([],), [()], (None,), (True,), ("",), (-1,), [0], [1, 1], (1,) * 7,
    nested(20), nested(20, list), tuple(range(5000)), list(range(5000)),
)

SETTING = (
    (
        (((("till", 5, 20), ("till", 1, 0), ("safe", 2, 3), ("till", 7, 1)), (), (("safe", 4, 9),)), (1, 2), (2, 1)),
        ((), (0, 1), (1, 3)),
        (((("box", 1, 0),),), (3, 1), (0, 1)),
    ),
    2,
    3,
)

# All KEYS of it, and some things that are none.
KEYS = ((0, 0, 0), (0, 0, 1), (0, 0, 2), (0, 0, 3), (0, 2, 0), (2, 0, 0))
NO_KEYS = ((0, 0, 4), (0, 1, 0), (0, 3, 0), (1, 0, 0), (3, 0, 0), (2, 0, 1), (2, 1, 0), (-1, 0, 0), (0, -1, 0),
           (0, 0, -1), (HUGE, 0, 0), (0, HUGE, 0), (0, 0, HUGE), (False, 0, 0), (0, False, 0), (0, 0, False),
           (0, 0, True), [0, 0, 0], (0, 0), (0, 0, 0, 0), ((0, 0), 0), ("0", 0, 0), (0, 0, None), ([0], 0, 0),
           "0.0.0", 0, None, True, ())

WORK = ("work", 5)
BESIDE = ("beside", 1, (("work", 3), ("work", 7)))
TREE = ("then", 2, (WORK, BESIDE, ("work", 0)))
# Eleven parts of one, so that number 10 stands behind number 2.
WIDE = ("beside", 0, tuple(("work", k) for k in range(11)))
DEEP = ("then", 1, (("beside", 2, (("then", 3, (("work", 4), ("work", 5))),)),))


def tree_made(chance, depth=4):
    if depth == 1 or chance.random() < 0.4:
        return ("work", chance.randrange(9))
    parts = tuple(tree_made(chance, depth - 1) for _ in range(chance.randrange(1, 4)))
    return (chance.choice(("then", "beside")), chance.randrange(5), parts)


def many_trees():
    chance = random.Random(25)
    return [tree_made(chance) for _ in range(150)] + [WORK, BESIDE, TREE, WIDE, DEEP]


# TREE's: it TOOK 18, 7 and 10 and 1.
TIMING = ("then", ((1, 2), (2, 0), (0, 1)),
          (("work", 4), ("beside", ((1, 1), (0, 2)), (("work", 3), ("work", 6))), ("work", 0)))


def timing_made(chance, tree, more=3):
    """A TIMING of a TREE, whose times are up to so much above the bounds."""
    if tree[0] == "work":
        return ("work", chance.randrange(tree[1] + more + 1))
    travels = tuple((chance.randrange(tree[1] + more), chance.randrange(tree[1] + more)) for _ in tree[2])
    return (tree[0], travels, tuple(timing_made(chance, part, more) for part in tree[2]))


def many_timings(more=3):
    chance = random.Random(30)
    return [(tree, timing_made(chance, tree, more)) for tree in many_trees() for _ in range(3)]


def spoiled(thing):
    """Things like this one, but for one part, at whatever depth, that is of another kind, lacks, or is doubled."""
    yield from (None, [thing])
    if thing is None:
        yield from (False, 0, (), "")
    elif isinstance(thing, str):
        yield from (thing.upper(), thing + " ", "", 0, list(thing))
    elif isinstance(thing, tuple):
        yield from (list(thing), thing + thing[-1:] if thing else (None,), thing + (None,), len(thing))
        for k, part in enumerate(thing):
            yield thing[:k] + thing[k + 1:]
            for other in spoiled(part):
                yield thing[:k] + (other,) + thing[k + 1:]
    else:
        yield from (True, False, -1 - thing, str(thing), (thing,))


def same(one, other):
    """Whether two things are alike, no True taken for a 1, no list for a tuple."""
    if isinstance(one, (tuple, list)) and isinstance(other, (tuple, list)):
        alike = one.__class__ is other.__class__ and len(one) == len(other)
        return alike and all(same(a, b) for a, b in zip(one, other))
    return one.__class__ is other.__class__ and one == other

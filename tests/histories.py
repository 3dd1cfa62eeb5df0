"""HISTORIES that several tests hand in, and which of their RECORDS are AHEAD of which."""

LATE = ("late",)
# Callers and groups may be left out; some keys' LOWS are below 0 or stand alone.
HISTORY = (
    ((0, 0, 0), "till", 5, 0, 3, ("done", 5)),
    ((0, 0, 1), "till", 2, 4, 4, ("done", 7)),
    ((0, 0, 2), "safe", 9, 4, 8, LATE),
    ((0, 3, 0), "till", 1, 2, 9, ("done", 8)),
    ((2, 1, 0), "safe", 4, 0, 1, ("done", 4)),
    ((2, 1, 1), "safe", 6, 8, 8, ("done", 2)),
    ((2, 7, 0), "till", 3, 5, 9, LATE),
)


def history_made(chance):
    """A HISTORY of few keys, cells, numbers and moments, so that much is alike."""
    rows = []
    for pair in sorted({(chance.randrange(3), chance.randrange(3)) for _ in range(3)}):
        for n in range(chance.randrange(4)):
            begin = chance.randrange(6)
            answer = chance.choice((LATE, ("done", chance.randrange(6)), ("done", chance.randrange(6))))
            rows.append(((*pair, n), chance.choice(("a", "b")), chance.randrange(1, 4), begin,
                         begin + chance.randrange(3), answer))
    return tuple(rows)


def plain_words(one, other):
    told = set()
    if one[4] < other[3]:
        told.add("time")
    if one[0][0] == other[0][0] and one[0][1] == other[0][1] and one[0][2] < other[0][2]:
        told.add("group")
    if one[1] == other[1] and one[5] != LATE != other[5] and other[5][1] - other[2] == one[5][1]:
        told.add("cell")
    return tuple(sorted(told))

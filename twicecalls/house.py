"""The house: what an "ask" makes of it, and what a fall leaves.

A house is (cells, book, groups); an entry of groups is
((caller, group), turn, floor, answers, waiting): turn is how many are decided.
"""


def asked(setting, house, clock, letter):
    """What comes of an "ask": (house, tells, keys)."""
    cells, book, groups = house
    _, key, cell, number, last, heard = letter
    pair, n = key[:2], key[2]
    call = (n, cell, number, last)
    entry = _raised(_entry_of(groups, pair), heard)
    _, turn, floor, answers, waiting = entry
    decided, told = (), ()
    if n < floor:
        told = ()
    elif n < turn:
        told = ((key, answers[n - floor]),)
    elif n == turn:
        cells, entry, decided = _decided(cells, entry, clock, call)
        told = decided
    elif n < floor + setting[1]:
        entry = (pair, turn, floor, answers, _with_waiting(waiting, call))
    tells = tuple([("tell", one, answer) for one, answer in told])
    keys = tuple([one for one, answer in decided])
    return ((cells, book + decided, _with_entry(groups, entry)), tells, keys)


def fallen(setting, house):
    """The house behind a fall: nothing waits, all else stays."""
    cells, book, groups = house
    return (cells, book, tuple([(*entry[:4], ()) for entry in groups]))


def _entry_of(groups, pair):
    for entry in groups:
        if entry[0] == pair:
            return entry
    return (pair, 0, 0, (), ())


def _with_entry(groups, entry):
    others = [other for other in groups if other[0] != entry[0]]
    return tuple(sorted([*others, entry]))


def _raised(entry, heard):
    """An entry whose CALLER has heard so many: what is below is forgotten."""
    pair, turn, floor, answers, waiting = entry
    if heard <= floor:
        return entry
    return (pair, turn, heard, answers[heard - floor:], waiting)


def _with_waiting(waiting, call):
    # An "ask" that comes twice has the same CALL, so the one that waits stays.
    if any([other[0] == call[0] for other in waiting]):
        return waiting
    return tuple(sorted([*waiting, call]))


def _decided(cells, entry, clock, call):
    """Decides the CALL whose turn it is, and all that waited for it without a gap.

    Told are the cells and the entry behind, and each (key, answer) in order.
    """
    pair, turn, floor, answers, waiting = entry
    ready = {other[0]: other for other in (call, *waiting)}
    sums = {cell: total for cell, total in cells}
    decided = []
    while turn in ready:
        _, cell, number, last = ready.pop(turn)
        answer = ("late",)
        if clock <= last:
            sums[cell] = sums.get(cell, 0) + number
            answer = ("done", sums[cell])
        decided.append(((*pair, turn), answer))
        turn += 1
    answers = answers + tuple([told for key, told in decided])
    still = tuple([other for other in waiting if other[0] in ready])
    return _rising(sums), (pair, turn, floor, answers, still), tuple(decided)


def _rising(sums):
    return tuple(sorted([(cell, sums[cell]) for cell in sums]))

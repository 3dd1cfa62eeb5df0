"""HISTORIES from outside: which ORDER there is of one, or the BAR that shows why there is none."""

from twicecalls.barchecker import is_gap
from twicecalls.errors import NoOrder
from twicecalls.records import low_of, words_between
from twicecalls.runs import run
from twicecalls.settings import call_of
from twicecalls.states import call_tried


def ordered(history):
    """An ORDER of a HISTORY."""
    key_at = {}
    done = [entry for entry in history if low_of(entry) is not None]
    for entry in done:
        if is_gap(history, entry):
            raise NoOrder(("gap", entry[0]))
        place = (entry[1], low_of(entry))
        if place in key_at:
            raise NoOrder(("twice", key_at[place], entry[0]))
        key_at[place] = entry[0]
    # Now the done ones of a cell stand in one chain by their LOWS, so what is left is that nothing goes round.
    order = _freed(history)
    if len(order) < len(history):
        raise NoOrder(("ring", _ring_in([entry for entry in history if entry[0] not in order])))
    return tuple(order)


def history_of(setting, steps):
    """The HISTORY of STEPS from the beginning."""
    state, events = run(setting, steps, None, len(steps))
    clock, had_at = 0, {}
    for event in events:
        if event[0] == "clock":
            clock = event[1]
        elif event[0] == "told" and event[2]:
            had_at[event[1]] = clock
    rows = []
    for key, answer in state[3][1]:
        cell, number, _ = call_of(setting, key)
        rows.append((key, cell, number, call_tried(state, key)[0], had_at.get(key, clock), answer))
    return tuple(sorted(rows))


def _freed(history):
    """A list of keys, each as soon as all that are AHEAD of it are there; those in a ring, and behind it, lack."""
    behind = {entry[0]: [] for entry in history}
    many = {entry[0]: 0 for entry in history}
    for one in history:
        for other in history:
            if words_between(one, other) != ():
                behind[one[0]].append(other[0])
                many[other[0]] += 1
    order = [key for key in many if many[key] == 0]
    k = 0
    while k < len(order):
        placed = order[k]
        for key in behind[placed]:
            many[key] -= 1
            if many[key] == 0:
                order.append(key)
        k += 1
    return order


def _ring_in(entries):
    """The keys of a ring among RECORDS, of each of which one of them is AHEAD."""
    way = [entries[0]]
    while way.count(way[-1]) == 1:
        ahead = [entry for entry in entries if words_between(entry, way[-1]) != ()]
        way.append(ahead[0])
    ring = way[way.index(way[-1]) + 1:]
    return tuple([entry[0] for entry in reversed(ring)])

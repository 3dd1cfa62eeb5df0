"""A checker: whether a paper is a BAR, that shows why a HISTORY has no ORDER. It seeks nothing."""

from twicecalls.errors import NoPaper
from twicecalls.kinds import is_row
from twicecalls.records import low_of, words_between
from twicecalls.settings import is_key_form


def lets_bar(history, thing):
    """The word of a BAR, where a thing is one of the HISTORY."""
    keys = _keys_in(thing)
    if keys is None:
        raise NoPaper("shape", -1)
    entry_at = {entry[0]: entry for entry in history}
    for k, key in enumerate(keys):
        if not is_key_form(key) or key not in entry_at:
            raise NoPaper("key", k)
    entries = [entry_at[key] for key in keys]
    word = thing[0]
    if word == "gap" and not is_gap(history, entries[0]):
        raise NoPaper("gap", -1)
    if word == "twice" and not _is_twice(entries[0], entries[1]):
        raise NoPaper("twice", -1)
    if word == "ring":
        _check_ring(entries)
    return word


def is_gap(history, entry):
    """Whether nothing of the HISTORY can have brought its cell to the LOW of a RECORD; never of a late one."""
    low = low_of(entry)
    if low is None or low == 0:
        return False
    # No ANSWER is below 0, so a LOW below 0 is a gap whatever there is.
    return not any([other[1] == entry[1] and other[5] == ("done", low) for other in history])


def _keys_in(thing):
    """The things in the places of a BAR's keys, None where it is none by kind."""
    if is_row(thing, 2) and thing[0] == "gap":
        return (thing[1],)
    if is_row(thing, 3) and thing[0] == "twice":
        return thing[1:]
    if is_row(thing, 2) and thing[0] == "ring" and isinstance(thing[1], tuple) and len(thing[1]) > 1:
        return thing[1]
    return None


def _is_twice(one, other):
    if one[0] == other[0] or one[1] != other[1]:
        return False
    return low_of(one) is not None and low_of(one) == low_of(other)


def _check_ring(entries):
    for k, entry in enumerate(entries):
        behind = entries[(k + 1) % len(entries)]
        if words_between(entry, behind) == ():
            raise NoPaper("ahead", k)

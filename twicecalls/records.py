"""HISTORIES from outside: RECORDS of what was decided, and which of them is AHEAD of which.

A RECORD is (key, cell, number, begin, end, answer).
"""

from twicecalls.errors import NoKey
from twicecalls.kinds import is_count, is_number, is_row, is_word
from twicecalls.settings import is_answer, is_key_form


def is_history(thing):
    """Whether a thing is a HISTORY."""
    if not isinstance(thing, tuple) or not all([_is_entry(part) for part in thing]):
        return False
    keys = [entry[0] for entry in thing]
    # Keys that rise are unlike, and RECORDS rise by them; so those of a GROUP stand side by side.
    ahead = None
    for key in keys:
        if ahead is not None and key <= ahead:
            return False
        if key[2] > 0 and ahead != (key[0], key[1], key[2] - 1):
            return False
        ahead = key
    return True


def low_of(record):
    """What the cell had ahead of a RECORD that is done, by its ANSWER; None of a late one."""
    _, _, number, _, _, answer = record
    return answer[1] - number if answer[0] == "done" else None


def words_ahead(history, one, other):
    """The words by which the RECORD of one key is AHEAD of that of another one, rising."""
    first = entry_of(history, one)
    return words_between(first, entry_of(history, other))


def entry_of(history, key):
    """The RECORD of a key."""
    if is_key_form(key):
        for entry in history:
            if entry[0] == key:
                return entry
    raise NoKey(key)


def words_between(one, other):
    """The words by which one RECORD is AHEAD of another one, rising."""
    words = []
    if one[1] == other[1] and one[5][0] == "done" and low_of(other) == one[5][1]:
        words.append("cell")
    if one[0][:2] == other[0][:2] and one[0][2] < other[0][2]:
        words.append("group")
    if one[4] < other[3]:
        words.append("time")
    return tuple(words)


def _is_entry(thing):
    if not is_row(thing, 6):
        return False
    key, cell, number, begin, end, answer = thing
    if not is_key_form(key) or not is_word(cell) or not is_count(number):
        return False
    return is_number(begin) and is_number(end) and begin <= end and is_answer(answer)

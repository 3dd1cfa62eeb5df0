"""A checker: whether a paper is an ORDER of a HISTORY. It seeks nothing."""

from twicecalls.errors import NoPaper
from twicecalls.records import words_between
from twicecalls.settings import is_key_form


def lets_order(history, thing):
    """True where a thing is an ORDER of the HISTORY."""
    if not isinstance(thing, tuple):
        raise NoPaper("shape", -1)
    entry_at = {entry[0]: entry for entry in history}
    seen = set()
    for k, key in enumerate(thing):
        if not is_key_form(key) or key not in entry_at or key in seen:
            raise NoPaper("key", k)
        seen.add(key)
    if len(thing) < len(history):
        raise NoPaper("few", -1)
    entries = [entry_at[key] for key in thing]
    sums = {}
    for k, entry in enumerate(entries):
        if any([_must_precede(behind, entry) for behind in entries[k + 1:]]):
            raise NoPaper("ahead", k)
        if not _is_told(sums, entry):
            raise NoPaper("told", k)
    return True


def _must_precede(one, other):
    """Whether one RECORD is AHEAD of another one by "time" or "group"; by "cell" is looked at by the sums."""
    words = words_between(one, other)
    return "time" in words or "group" in words


def _is_told(sums, entry):
    """Whether an ANSWER is what its cell has then; sums, what each cell has, is brought on by it."""
    _, cell, number, _, _, answer = entry
    if answer[0] == "late":
        return True
    sums[cell] = sums.get(cell, 0) + number
    return answer[1] == sums[cell]

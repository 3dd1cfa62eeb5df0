"""BOOKS: what was decided of each KEY, in order."""

from twicecalls.errors import NoPaper
from twicecalls.kinds import is_row
from twicecalls.settings import call_of, is_answer, is_key

LATE = ("late",)


def lets_book(setting, thing):
    """The CELLS of a BOOK, where a thing is one. It seeks nothing."""
    if not isinstance(thing, tuple) or not all([is_row(pair, 2) for pair in thing]):
        raise NoPaper("shape", -1)
    turns, sums = {}, {}
    for i, (key, answer) in enumerate(thing):
        # Those of a GROUP that stand ahead are just the ones below its turn.
        if not is_key(setting, key) or key[2] < turns.get(key[:2], 0):
            raise NoPaper("key", i)
        if key[2] > turns.get(key[:2], 0):
            raise NoPaper("turn", i)
        turns[key[:2]] = key[2] + 1
        # ("done", True) is no ANSWER, though Python takes it for ("done", 1).
        if not is_answer(answer) or answer != answer_by(setting, sums, key, answer == LATE):
            raise NoPaper("answer", i)
    return tuple(sorted([(cell, sums[cell]) for cell in sums]))


def answer_by(setting, sums, key, is_late):
    """The ANSWER of a KEY that is decided now; sums, what each cell has, is brought on by it."""
    if is_late:
        return LATE
    cell, number, _ = call_of(setting, key)
    sums[cell] = sums.get(cell, 0) + number
    return ("done", sums[cell])

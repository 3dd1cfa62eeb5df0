"""A checker: whether a paper is a LINE of a SETTING. It seeks nothing."""

from twicecalls.books import answer_by
from twicecalls.errors import NoPaper
from twicecalls.kinds import is_row
from twicecalls.settings import call_of, is_key

TICK = ("tick",)


def lets_line(setting, thing):
    """The BOOK of a LINE, where a thing is one."""
    if not isinstance(thing, tuple):
        raise NoPaper("shape", -1)
    clock, tried_at, sums, book = 0, {}, {}, []
    turns = {"try": {}, "come": {}}
    for i, entry in enumerate(thing):
        if not _is_entry(setting, entry):
            raise NoPaper("entry", i)
        if entry == TICK:
            clock += 1
            continue
        word, key = entry
        pair, n = key[:2], key[2]
        if n != turns[word].get(pair, 0):
            raise NoPaper("turn", i)
        if word == "come" and key not in tried_at:
            raise NoPaper("tried", i)
        if word == "try" and n >= turns["come"].get(pair, 0) + setting[1]:
            raise NoPaper("window", i)
        turns[word][pair] = n + 1
        if word == "try":
            tried_at[key] = clock
        else:
            is_late = clock - tried_at[key] > call_of(setting, key)[2]
            book.append((key, answer_by(setting, sums, key, is_late)))
    return tuple(book)


def _is_entry(setting, thing):
    if thing == TICK:
        return True
    return is_row(thing, 2) and thing[0] in ("try", "come") and is_key(setting, thing[1])

"""Checkers of the papers of purses, LEDGERS and OVERDRAFTS. They seek nothing."""

from twicecalls.errors import NoPaper
from twicecalls.fractions import is_fraction, is_less, plus, times
from twicecalls.kinds import is_number_row
from twicecalls.purses import purse_begun, purse_or_none


def lets_ledger(allowance, takings, thing, begin=None):
    """What the purse has behind all, where a thing is the LEDGER of TAKINGS."""
    if not isinstance(thing, tuple) or not all([is_fraction(entry) for entry in thing]):
        raise NoPaper("shape", -1)
    purse = purse_begun(allowance, begin)
    for k, word in enumerate(takings):
        if k >= len(thing):
            raise NoPaper("few", k)
        purse = purse_or_none(allowance, word, purse)
        if purse is None:
            raise NoPaper("purse", k)
        if thing[k] != purse:
            raise NoPaper("entry", k)
    if len(thing) > len(takings):
        raise NoPaper("more", len(takings))
    return purse


def lets_overdraft(allowance, takings, thing, begin=None):
    """How often "more" is among the words of an OVERDRAFT, where a thing is one of TAKINGS."""
    if not is_number_row(thing, 2):
        raise NoPaper("shape", -1)
    low, high = thing
    if low > high or high >= len(takings):
        raise NoPaper("words", -1)
    words = takings[low:high + 1]
    many = words.count("more")
    rate, most = allowance
    purse = purse_begun(allowance, begin) if low == 0 else most
    if not is_less(plus(purse, times(rate, (words.count("first"), 1))), (many, 1)):
        raise NoPaper("sums", -1)
    return many

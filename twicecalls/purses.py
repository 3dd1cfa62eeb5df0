"""Purses: what a CALLER has for trying again.

An ALLOWANCE is (rate, most); TAKINGS are a tuple of the words "first" and "more".
"""

from twicecalls.errors import NoSetting
from twicecalls.fractions import is_fraction, lesser, minus, plus
from twicecalls.kinds import is_row

WHOLE = (1, 1)


def is_allowance(thing):
    """Whether a thing is an ALLOWANCE."""
    return is_row(thing, 2) and is_fraction(thing[0]) and is_fraction(thing[1])


def is_takings(thing):
    """Whether a thing is TAKINGS, of however many words."""
    return isinstance(thing, tuple) and all([_is_taking(word) for word in thing])


def purse_behind(allowance, word, begin=None):
    """What the purse has behind a word, begin ahead of it."""
    if not _is_taking(word):
        raise NoSetting("word")
    purse = purse_or_none(allowance, word, purse_begun(allowance, begin))
    if purse is None:
        raise NoSetting("purse")
    return purse


def fits(allowance, takings, begin=None):
    """Whether TAKINGS FIT."""
    return _left(allowance, takings, begin) is not None


def purse_left(allowance, takings, begin=None):
    """What the purse has behind all words of TAKINGS that FIT."""
    purse = _left(allowance, takings, begin)
    if purse is None:
        raise NoSetting("purse")
    return purse


def purse_begun(allowance, begin):
    """What the purse has at first: begin, most where it is None."""
    return allowance[1] if begin is None else begin


def purse_or_none(allowance, word, purse):
    """What the purse has behind a word, None where it has less than a whole for a "more"."""
    rate, most = allowance
    if word == "first":
        return lesser(plus(purse, rate), most)
    return minus(purse, WHOLE)


def _is_taking(thing):
    return thing in ("first", "more")


def _left(allowance, takings, begin):
    purse = purse_begun(allowance, begin)
    for word in takings:
        purse = purse_or_none(allowance, word, purse)
        if purse is None:
            return None
    return purse

"""CALLERS: what is DUE of one, and what a "tell" makes of it."""

from twicecalls.errors import NoStep
from twicecalls.fractions import is_less
from twicecalls.kinds import is_number
from twicecalls.purses import WHOLE
from twicecalls.states import is_open, with_part


def due(setting, state, caller):
    """What a CALLER does next: ("first", key, lane), ("further", key, lane) or ("nothing",)."""
    if not is_number(caller) or caller >= len(setting[0]):
        raise NoStep(("go", caller))
    purse, tries, groups = state[1][caller]
    pair_n = _first_try(setting, caller, groups)
    if pair_n is not None:
        return ("first", (caller, *pair_n), tries % 2)
    if is_less(purse, WHOLE):
        return ("nothing",)
    return _further_try(caller, groups, state[0] - setting[2])


def heard_tell(setting, state, letter):
    """The STATE that a "tell" makes at its CALLER."""
    _, key, answer = letter
    caller, group, n = key
    clock, callers, lanes, house = state
    if not is_open(state, key):
        return state
    purse, tries, groups = callers[caller]
    _, calls = groups[group]
    calls = with_part(calls, n, (*calls[n][:3], answer))
    groups = with_part(groups, group, (heard_in(calls), calls))
    return (clock, with_part(callers, caller, (purse, tries, groups)), lanes, house)


def heard_in(calls):
    """How many of the CALLS of a GROUP from 0 on without a gap have an ANSWER."""
    lacking = [n for n, call in enumerate(calls) if call[3] is None]
    return lacking[0] if lacking else len(calls)


def _first_try(setting, caller, groups):
    """The GROUP and the n of the CALL that is tried first now, None of none."""
    for group, (heard, calls) in enumerate(groups):
        n = len(calls)
        if n < len(setting[0][caller][0][group]) and n < heard + setting[1]:
            return (group, n)
    return None


def _further_try(caller, groups, latest):
    """What is DUE of a purse with a whole or more: CALLS last tried at latest, or ahead of it, are tried again."""
    for group, (_, calls) in enumerate(groups):
        for n, (_, last_try, lane, answer) in enumerate(calls):
            if answer is None and last_try <= latest:
                return ("further", (caller, group, n), 1 - lane)
    return ("nothing",)

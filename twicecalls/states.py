"""STATES: the one at the beginning, and what every CALLER and the house know in one.

A STATE is (clock, callers, lanes, house). A CALLER in it is (purse, tries, groups), a GROUP of it (heard, calls),
a CALL that was tried (first, last_try, lane, answer).
"""

from twicecalls.errors import NoKey
from twicecalls.settings import is_key, keys_of


def begun(setting):
    """The STATE at the beginning."""
    callers = [(most, 0, tuple([(0, ()) for group in groups])) for groups, rate, most in setting[0]]
    return (0, tuple(callers), ((), ()), ((), (), ()))


def is_quiet(setting, state):
    """Whether both LANES are void, and nothing waits at the house."""
    _, _, lanes, house = state
    return lanes == ((), ()) and all([entry[4] == () for entry in house[2]])


def all_through(setting, state):
    """Whether each CALL has an ANSWER at its CALLER."""
    return all([answer_had(setting, state, key) is not None for key in keys_of(setting)])


def answer_had(setting, state, key):
    """The ANSWER that the CALLER of a KEY has, None of none."""
    if not is_key(setting, key):
        raise NoKey(key)
    call = call_tried(state, key)
    return None if call is None else call[3]


def answer_decided(setting, state, key):
    """The ANSWER that the book has of a KEY, None of none."""
    if not is_key(setting, key):
        raise NoKey(key)
    for one, answer in state[3][1]:
        if one == key:
            return answer
    return None


def call_tried(state, key):
    """What its CALLER knows of the CALL of a KEY, (first, last_try, lane, answer); None where it wasn't tried."""
    caller, group, n = key
    _, calls = state[1][caller][2][group]
    return calls[n] if n < len(calls) else None


def is_open(state, key):
    """Whether the CALL of a KEY was tried, and its CALLER has no ANSWER."""
    call = call_tried(state, key)
    return call is not None and call[3] is None


def with_part(row, k, part):
    """A tuple like this one, but for its part number k."""
    return row[:k] + (part,) + row[k + 1:]

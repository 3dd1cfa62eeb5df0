"""The FAIR RUN: FAIR ROUNDS till all are THROUGH, or it is STUCK."""

from twicecalls.callers import due
from twicecalls.fractions import is_less
from twicecalls.purses import WHOLE
from twicecalls.runs import fair_round
from twicecalls.states import all_through


def is_stuck(setting, state):
    """Whether not all are THROUGH, nothing is on its way, and nobody can try any more, whatever ticks."""
    if all_through(setting, state) or state[2] != ((), ()):
        return False
    return not any([_can_try(setting, state, caller) for caller in range(len(setting[0]))])


def fair_run(setting, state):
    """(word, rounds, steps, state): how the FAIR RUN ends, by how many ROUNDS and which STEPS, and where."""
    rounds, steps = 0, []
    while not all_through(setting, state) and not is_stuck(setting, state):
        told, state = fair_round(setting, state)
        steps.extend(told)
        rounds += 1
    word = "through" if all_through(setting, state) else "stuck"
    return (word, rounds, tuple(steps), state)


def _can_try(setting, state, caller):
    """Whether a FIRST TRY is DUE of a CALLER, or it can pay a FURTHER TRY of a CALL without ANSWER."""
    if due(setting, state, caller)[0] == "first":
        return True
    purse, _, groups = state[1][caller]
    has_open = any([call[3] is None for heard, calls in groups for call in calls])
    return has_open and not is_less(purse, WHOLE)

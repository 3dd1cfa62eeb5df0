"""WAYS: how the CALLER of a KEY comes to its ANSWER, where nothing is lost any more."""

from twicecalls.errors import NoKey
from twicecalls.fair import fair_run
from twicecalls.runs import run
from twicecalls.settings import is_key
from twicecalls.states import answer_had


def way_of(setting, state, key):
    """A WAY of a KEY by the FAIR RUN, no longer than it must be; None where that brings no ANSWER."""
    if not is_key(setting, key):
        raise NoKey(key)
    if answer_had(setting, state, key) is not None:
        return ()
    _, _, steps, _ = fair_run(setting, state)
    _, events = run(setting, steps, state, len(steps))
    told = ("told", key, True)
    return steps[:events.index(told) + 1] if told in events else None

"""WAYS: how the CALLER of a KEY comes to its ANSWER, where nothing is lost any more."""

from twicecalls.fair import fair_run
from twicecalls.runs import run
from twicecalls.states import answer_had


def way_of(setting, state, key):
    """A WAY of a KEY by the FAIR RUN, no longer than it must be; None where that brings no ANSWER."""
    # This refuses what is no KEY, too.
    if answer_had(setting, state, key) is not None:
        return ()
    _, _, steps, _ = fair_run(setting, state)
    _, events = run(setting, steps, state, len(steps))
    told = ("told", key, True)
    return steps[:events.index(told) + 1] if told in events else None

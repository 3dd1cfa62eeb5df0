"""Runs of STEPS, one behind the other, and the FAIR ROUND in which nothing is lost."""

from twicecalls.callers import due
from twicecalls.states import begun
from twicecalls.steps import stepped

MOST_STEPS = 400


def run(setting, steps, state=None, most=MOST_STEPS):
    """(state, events): the STATE behind the first ones of STEPS, most at the most, and their events."""
    state = begun(setting) if state is None else state
    most = MOST_STEPS if most is None else most
    events = []
    for step in steps[:most]:
        state, event = stepped(setting, state, step)
        events.append(event)
    return (state, tuple(events))


def fair_round(setting, state):
    """(steps, state): the STEPS of a FAIR ROUND, and the STATE behind."""
    calm, state = calm_run(setting, state)
    steps = list(calm)
    for caller in range(len(setting[0])):
        while due(setting, state, caller) != ("nothing",):
            steps.append(("go", caller))
            state, _ = stepped(setting, state, ("go", caller))
    steps.append(("tick",))
    state, _ = stepped(setting, state, ("tick",))
    return (tuple(steps), state)


def calm_run(setting, state, most=None):
    """(steps, state): "get" of first LETTERS, of LANE 0 ahead of LANE 1, till both are void; most at the most."""
    steps = []
    while state[2] != ((), ()) and (most is None or len(steps) < most):
        step = ("get", 0 if state[2][0] else 1, 0)
        state, _ = stepped(setting, state, step)
        steps.append(step)
    return (tuple(steps), state)

"""STORIES of KEYS: by which of the STEPS each was tried, DECIDED and told."""

from twicecalls.errors import NoKey
from twicecalls.runs import run
from twicecalls.settings import is_key


def story_of(setting, steps, key):
    """(tried, decided, told) of a KEY: numbers of STEPS from the beginning, None where none was."""
    if not is_key(setting, key):
        raise NoKey(key)
    _, events = run(setting, steps, None, len(steps))
    tried = decided = told = None
    for k, event in enumerate(events):
        if event[0] == "first" and event[1] == key:
            tried = k
        elif event[0] == "asked" and key in event[2]:
            decided = k
        elif event == ("told", key, True):
            told = k
    return (tried, decided, told)


def outcomes(setting, steps):
    """All OUTCOMES of STEPS, (decided, key, answer), as they were decided."""
    state, events = run(setting, steps, None, len(steps))
    answers = {key: answer for key, answer in state[3][1]}
    decided = [(k, event[2]) for k, event in enumerate(events) if event[0] == "asked"]
    return tuple([(k, key, answers[key]) for k, keys in decided for key in keys])

"""STEPS: what each does to a STATE, and the event that tells of it."""

from twicecalls.callers import due, heard_tell
from twicecalls.errors import NoStep
from twicecalls.house import asked, fallen
from twicecalls.purses import purse_or_none
from twicecalls.settings import allowance_of, call_of, is_step
from twicecalls.states import is_open, with_part

# What is taken of the purse for what is DUE.
TAKINGS = {"first": "first", "further": "more"}


def stepped(setting, state, step):
    """(state, event): the STATE behind a STEP, and what was done."""
    if not is_step(step) or not _is_there(setting, state, step):
        raise NoStep(step)
    action = ACTIONS[step[0]]
    return action(setting, state, step)


def _is_there(setting, state, step):
    """Whether there is the CALLER, or the place on its LANE, of a STEP."""
    if step[0] == "go":
        return step[1] < len(setting[0])
    if len(step) == 3:
        _, lane, k = step
        return k < len(state[2][lane])
    return True


def _go(setting, state, step):
    event = due(setting, state, step[1])
    if event == ("nothing",):
        return (state, event)
    word, key, lane = event
    caller, group, n = key
    clock, callers, lanes, house = state
    purse, tries, groups = callers[caller]
    heard, calls = groups[group]
    first = clock if word == "first" else calls[n][0]
    # A CALL that is tried first stands just behind those that were tried.
    calls = calls[:n] + ((first, clock, lane, None),) + calls[n + 1:]
    purse = purse_or_none(allowance_of(setting, caller), TAKINGS[word], purse)
    groups = with_part(groups, group, (heard, calls))
    callers = with_part(callers, caller, (purse, tries + 1, groups))
    cell, number, span = call_of(setting, key)
    letter = ("ask", key, cell, number, first + span, heard)
    return ((clock, callers, _sent(lanes, lane, (letter,)), house), event)


def _get(setting, state, step):
    _, lane, k = step
    letter = state[2][lane][k]
    key = letter[1]
    clock, callers, lanes, house = _without(state, lane, k)
    if letter[0] == "tell":
        event = ("told", key, is_open(state, key))
        return (heard_tell(setting, (clock, callers, lanes, house), letter), event)
    house, tells, keys = asked(setting, house, clock, letter)
    return ((clock, callers, _sent(lanes, lane, tells), house), ("asked", key, keys))


def _lose(setting, state, step):
    _, lane, k = step
    return (_without(state, lane, k), ("lost", state[2][lane][k]))


def _double(setting, state, step):
    _, lane, k = step
    letter = state[2][lane][k]
    clock, callers, lanes, house = state
    return ((clock, callers, _sent(lanes, lane, (letter,)), house), ("doubled", letter))


def _tick(setting, state, step):
    clock = state[0] + 1
    return ((clock, *state[1:]), ("clock", clock))


def _tear(setting, state, step):
    lane = step[1]
    clock, callers, lanes, house = state
    return ((clock, callers, with_part(lanes, lane, ()), house), ("torn", len(lanes[lane])))


def _fall(setting, state, step):
    clock, callers, lanes, house = state
    many = sum([len(entry[4]) for entry in house[2]])
    return ((clock, callers, lanes, fallen(setting, house)), ("fallen", many))


def _sent(lanes, lane, letters):
    return with_part(lanes, lane, lanes[lane] + letters)


def _without(state, lane, k):
    """A STATE like this one, but for the LETTER at a place."""
    clock, callers, lanes, house = state
    letters = lanes[lane]
    return (clock, callers, with_part(lanes, lane, letters[:k] + letters[k + 1:]), house)


ACTIONS = {
    "go": _go,
    "get": _get,
    "lose": _lose,
    "double": _double,
    "tick": _tick,
    "tear": _tear,
    "fall": _fall,
}

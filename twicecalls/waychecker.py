"""A checker: whether a paper is a WAY by which the CALLER of a KEY comes to its ANSWER. It seeks nothing."""

from twicecalls.errors import NoKey, NoPaper, NoStep
from twicecalls.settings import is_key
from twicecalls.states import answer_had
from twicecalls.steps import stepped


def lets_way(setting, state, key, thing):
    """How many STEPS a WAY has, where a thing is one of a KEY from a STATE."""
    if not is_key(setting, key):
        raise NoKey(key)
    if not isinstance(thing, tuple):
        raise NoPaper("shape", -1)
    for k, step in enumerate(thing):
        try:
            state, _ = stepped(setting, state, step)
        except NoStep:
            raise NoPaper("step", k) from None
    if answer_had(setting, state, key) is None:
        raise NoPaper("answer", -1)
    return len(thing)

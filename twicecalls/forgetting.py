"""What the house has forgotten, and what it owes."""

from twicecalls.states import answer_had


def forgotten(setting, state):
    """The KEYS below the floor of their GROUP, rising."""
    _, _, groups = state[3]
    return tuple([(*entry[0], n) for entry in groups for n in range(entry[2])])


def owed(setting, state):
    """The KEYS that were DECIDED and of which the CALLER has no ANSWER, rising."""
    _, book, _ = state[3]
    return tuple(sorted([key for key, answer in book if answer_had(setting, state, key) is None]))

"""SETTINGS: their parts, by kind, and what is found in them by numbers."""

from twicecalls.errors import NoKey
from twicecalls.fractions import is_fraction
from twicecalls.kinds import is_count, is_lane, is_number, is_number_row, is_row, is_word

# What stands behind the word of each STEP.
STEP_FORMS = {
    "go": ("number",),
    "get": ("lane", "number"),
    "lose": ("lane", "number"),
    "double": ("lane", "number"),
    "tick": (),
    "tear": ("lane",),
    "fall": (),
}


def is_call(thing):
    """Whether a thing is a CALL."""
    return is_row(thing, 3) and is_word(thing[0]) and is_count(thing[1]) and is_number(thing[2])


def is_group(thing):
    """Whether a thing is a GROUP."""
    return isinstance(thing, tuple) and all([is_call(part) for part in thing])


def is_caller(thing):
    """Whether a thing is a CALLER."""
    if not is_row(thing, 3) or not isinstance(thing[0], tuple):
        return False
    groups, rate, most = thing
    return all([is_group(part) for part in groups]) and is_fraction(rate) and is_fraction(most)


def is_setting(thing):
    """Whether a thing is a SETTING."""
    if not is_row(thing, 3) or not isinstance(thing[0], tuple):
        return False
    callers, window, patience = thing
    return len(callers) > 0 and all([is_caller(part) for part in callers]) and is_count(window) and is_count(patience)


def is_answer(thing):
    """Whether a thing is an ANSWER."""
    if is_row(thing, 1):
        return thing[0] == "late"
    return is_row(thing, 2) and thing[0] == "done" and is_number(thing[1])


def is_step(thing):
    """Whether a thing is a STEP, of whatever CALLERS and LETTERS."""
    if not isinstance(thing, tuple) or len(thing) == 0 or not isinstance(thing[0], str):
        return False
    form = STEP_FORMS.get(thing[0])
    if form is None or len(thing) != len(form) + 1:
        return False
    return all([is_lane(part) if kind == "lane" else is_number(part) for kind, part in zip(form, thing[1:])])


def is_letter(thing):
    """Whether a thing is a LETTER, of whatever KEY."""
    if is_row(thing, 6) and thing[0] == "ask":
        _, key, cell, number, last, heard = thing
        return is_key_form(key) and is_word(cell) and is_count(number) and is_number(last) and is_number(heard)
    return is_row(thing, 3) and thing[0] == "tell" and is_key_form(thing[1]) and is_answer(thing[2])


def is_key_form(thing):
    """Whether a thing is a KEY by its form: three NUMBERS, any."""
    return is_number_row(thing, 3)


def keys_of(setting):
    """All KEYS, rising."""
    return tuple([(*pair, n) for pair in groups_of(setting) for n in range(len(_group_at(setting, pair)))])


def groups_of(setting):
    """All pairs (caller, group), rising, those of void GROUPS, too."""
    callers = setting[0]
    return tuple([(k, group) for k, caller in enumerate(callers) for group in range(len(caller[0]))])


def cells_of(setting):
    """All cells of the CALLS, rising."""
    return tuple(sorted({call[0] for caller in setting[0] for group in caller[0] for call in group}))


def is_key(setting, thing):
    """Whether a thing is a KEY of the SETTING."""
    if not is_key_form(thing) or not _is_pair(setting, thing[:2]):
        return False
    return thing[2] < len(_group_at(setting, thing))


def call_of(setting, key):
    """The CALL of a KEY."""
    if not is_key(setting, key):
        raise NoKey(key)
    return _group_at(setting, key)[key[2]]


def group_of(setting, pair):
    """The CALLS of a pair (caller, group)."""
    if not _is_pair(setting, pair):
        raise NoKey(pair)
    return _group_at(setting, pair)


def allowance_of(setting, caller):
    """The ALLOWANCE of a CALLER, by its number."""
    if not is_number(caller) or caller >= len(setting[0]):
        raise NoKey(caller)
    _, rate, most = setting[0][caller]
    return (rate, most)


def keys_ahead(setting, key):
    """The KEYS of the GROUP of a KEY that are ahead of it, rising."""
    if not is_key(setting, key):
        raise NoKey(key)
    return tuple([(key[0], key[1], n) for n in range(key[2])])


def key_behind(setting, key):
    """The KEY of its GROUP behind a KEY, None where it is the last."""
    if not is_key(setting, key):
        raise NoKey(key)
    behind = (key[0], key[1], key[2] + 1)
    return behind if is_key(setting, behind) else None


def _is_pair(setting, thing):
    if not is_number_row(thing, 2):
        return False
    caller, group = thing
    return caller < len(setting[0]) and group < len(setting[0][caller][0])


def _group_at(setting, pair):
    return setting[0][pair[0]][0][pair[1]]

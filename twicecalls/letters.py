"""LETTERS OF a SETTING."""

from twicecalls.settings import call_of, is_key, is_letter


def is_letter_of(setting, thing):
    """Whether a thing is a LETTER OF the SETTING."""
    if not is_letter(thing) or not is_key(setting, thing[1]):
        return False
    return thing[0] == "tell" or thing[2:4] == call_of(setting, thing[1])[:2]

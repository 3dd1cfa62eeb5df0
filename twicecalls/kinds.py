"""What kind a thing is, any thing: NUMBERS, WORDS, and tuples of so many."""

SMALL_LETTERS = "abcdefghijklmnopqrstuvwxyz"


def is_number(thing):
    """Whether a thing is a NUMBER: an int from 0 on, and no truth."""
    return isinstance(thing, int) and not isinstance(thing, bool) and thing >= 0


def is_count(thing):
    """Whether a thing is a NUMBER from 1 on."""
    return is_number(thing) and thing > 0


def is_lane(thing):
    """Whether a thing is the NUMBER of a LANE."""
    return is_number(thing) and thing < 2


def is_word(thing):
    """Whether a thing is a WORD: a text of one to eight small letters."""
    if not isinstance(thing, str) or not 1 <= len(thing) <= 8:
        return False
    return all([sign in SMALL_LETTERS for sign in thing])


def is_row(thing, many):
    """Whether a thing is a tuple of so many things."""
    return isinstance(thing, tuple) and len(thing) == many


def are_numbers(thing):
    """Whether a thing is a tuple of NUMBERS, perhaps ()."""
    return isinstance(thing, tuple) and all([is_number(part) for part in thing])


def is_number_row(thing, many):
    """Whether a thing is a tuple of so many NUMBERS."""
    return is_row(thing, many) and are_numbers(thing)

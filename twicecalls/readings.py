"""STEPS, KEYS and SETTINGS read from the lines that twicecalls.lines writes.

Each function whose name ends in said tells what a word says, None where it says no such thing.
"""

from twicecalls.errors import NoText
from twicecalls.fractions import is_fraction
from twicecalls.kinds import is_count, is_lane
from twicecalls.settings import STEP_FORMS, is_call, is_key_form

MOST_FIGURES = 12


def read_step(text, line=0):
    """The STEP that a text writes."""
    words = text.split(" ")
    if words[0] not in STEP_FORMS:
        raise NoText(line, 0)
    things = _things_behind(words, STEP_FORMS[words[0]], line)
    return (words[0], *things)


def read_steps(text):
    """The STEPS that a text of lines writes."""
    return tuple([read_step(row, line) for line, row in enumerate(_lines_in(text))])


def read_setting(text):
    """The SETTING that a text of lines writes."""
    rows = _lines_in(text)
    if len(rows) == 0:
        raise NoText(0, 0)
    words = rows[0].split(" ")
    if words[0] != "setting":
        raise NoText(0, 0)
    window, patience = _things_behind(words, ("count", "count"), 0)
    callers = _callers_in(rows)
    if len(callers) == 0:
        raise NoText(len(rows), 0)
    return (callers, window, patience)


def read_key(text):
    """The KEY that a text writes, any three NUMBERS."""
    words = text.split(" ")
    key = _key_said(words[0])
    if key is None:
        raise NoText(0, 0)
    if len(words) > 1:
        raise NoText(0, 1)
    return key


def number_said(word):
    """The NUMBER that a word says, of at most twelve figures."""
    if not word.isascii() or not word.isdecimal() or len(word) > MOST_FIGURES:
        return None
    if word.startswith("0") and word != "0":
        return None
    return int(word)


def _lines_in(text):
    rows = text.split("\n")
    # One line end behind the last line is let be; the empty text has no line.
    return rows[:-1] if rows[-1] == "" else rows


def _callers_in(rows):
    """The CALLERS that the lines behind the first one write."""
    callers = []
    for line, row in enumerate(rows[1:], start=1):
        words = row.split(" ")
        if words[0] == "caller":
            rate, most = _things_behind(words, ("fraction", "fraction"), line)
            callers.append(([], rate, most))
        elif words[0] == "group" and len(callers) > 0:
            calls = _things_behind(words, ("call",) * (len(words) - 1), line)
            callers[-1][0].append(tuple(calls))
        else:
            raise NoText(line, 0)
    return tuple([(tuple(groups), rate, most) for groups, rate, most in callers])


def _things_behind(words, form, line):
    """What the words behind the first one of a line say, one thing for each kind of the form."""
    things = []
    for k, kind in enumerate(form, start=1):
        if k == len(words):
            raise NoText(line, k)
        said = SAID[kind]
        thing = said(words[k])
        if thing is None:
            raise NoText(line, k)
        things.append(thing)
    if len(words) > len(form) + 1:
        raise NoText(line, len(form) + 1)
    return things


def _count_said(word):
    number = number_said(word)
    return number if is_count(number) else None


def _lane_said(word):
    number = number_said(word)
    return number if is_lane(number) else None


def _fraction_said(word):
    pair = tuple([number_said(part) for part in word.split("/")])
    return pair if is_fraction(pair) else None


def _call_said(word):
    cell, *rest = word.split(":")
    call = (cell, *[number_said(part) for part in rest])
    return call if is_call(call) else None


def _key_said(word):
    key = tuple([number_said(part) for part in word.split(".")])
    return key if is_key_form(key) else None


SAID = {
    "number": number_said,
    "count": _count_said,
    "lane": _lane_said,
    "fraction": _fraction_said,
    "call": _call_said,
}

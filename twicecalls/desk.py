"""A desk: it keeps a mill, and answers rows of text with text.

Each form of a row has a function behind it that answers of a mill and of what the row hands in.
"""

from twicecalls.errors import NoLine, NoText
from twicecalls.lines import shown_key, shown_step
from twicecalls.mill import Mill
from twicecalls.outside import ordered
from twicecalls.readings import number_said, read_key, read_setting, read_step

BAR = " | "


class Desk:
    """Keeps a mill, at first none."""

    def __init__(self):
        self.mill = None

    def say(self, row):
        """The answer to a row."""
        form, thing = _form_of(row)
        if form == "open SETTING":
            self.mill = Mill(thing)
            return "ok"
        if self.mill is None:
            raise NoLine(row)
        answer = ANSWERS[form]
        return answer(self.mill, thing)


def _form_of(row):
    """(form, thing): the form of a row, and what it hands in, None of nothing."""
    word, blank, rest = row.partition(" ")
    if blank == "":
        if word not in LONE_FORMS:
            raise NoLine(row)
        return (word, None)
    if word not in FORMS:
        raise NoLine(row)
    form = FORMS[word]
    try:
        thing = _thing_said(form, rest)
    except NoText:
        raise NoLine(row) from None
    if thing is None:
        raise NoLine(row)
    return (form, thing)


def _thing_said(form, text):
    """What the words behind the first one hand in; refused, or None, where they say no such thing."""
    if form == "open SETTING":
        return read_setting(text.replace(BAR, "\n"))
    if form == "do STEPS":
        return tuple([read_step(piece) for piece in text.split(BAR)])
    if form == "known KEY":
        return read_key(text)
    return number_said(text)


def _done(mill, steps):
    return str(len(mill.run(steps, len(steps))))


def _one_back(mill, thing):
    return _back(mill, 1)


def _back(mill, times):
    return BAR.join([shown_step(step) for step in mill.back(times)])


def _many_steps(mill, thing):
    return str(len(mill))


def _clock(mill, thing):
    return str(mill.state_now()[0])


def _book(mill, thing):
    _, book, _ = mill.state_now()[3]
    return _in_a_row([f"{shown_key(key)}={_shown_answer(answer)}" for key, answer in book])


def _open_ones(mill, thing):
    return _in_a_row([shown_key(key) for key in mill.open_keys()])


def _cells(mill, thing):
    cells, _, _ = mill.state_now()[3]
    return _in_a_row([f"{cell}={total}" for cell, total in cells])


def _known(mill, key):
    way, answer = mill.known(key)
    return f"{way} {_shown_answer(answer)}"


def _purse(mill, caller):
    purse, many = mill.purse_of(caller)
    return f"{purse[0]}/{purse[1]} {many}"


def _letters(mill, thing):
    return " ".join([str(len(lane)) for lane in mill.state_now()[2]])


def _order(mill, thing):
    ordered(mill.history())
    return "yes"


def _in_a_row(words):
    return " ".join(words) if words else "-"


def _shown_answer(answer):
    if answer is None:
        return "-"
    return ":".join([str(part) for part in answer])


# Of the rows of one word, and of those of a word and what it hands in.
LONE_FORMS = ("back", "steps", "clock", "book", "open", "cells", "letters", "order")
FORMS = {"open": "open SETTING", "do": "do STEPS", "back": "back K", "known": "known KEY", "purse": "purse C"}
ANSWERS = {
    "do STEPS": _done,
    "back": _one_back,
    "back K": _back,
    "steps": _many_steps,
    "clock": _clock,
    "book": _book,
    "open": _open_ones,
    "cells": _cells,
    "known KEY": _known,
    "purse C": _purse,
    "letters": _letters,
    "order": _order,
}

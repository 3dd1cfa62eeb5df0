"""SOUND STATES: what is sure of every STATE to which STEPS come, asked of any thing.

First it is asked whether a thing is a STATE by kind; only then whether its parts go together.
"""

from twicecalls.books import lets_book
from twicecalls.callers import heard_in
from twicecalls.errors import NoPaper
from twicecalls.fractions import is_fraction, is_less
from twicecalls.kinds import is_lane, is_number, is_number_row, is_row, is_word
from twicecalls.letters import is_letter_of
from twicecalls.settings import allowance_of, call_of, group_of, groups_of, is_answer
from twicecalls.states import call_tried


def is_sound(setting, thing):
    """Whether a thing is a SOUND STATE."""
    if not _is_state(setting, thing):
        return False
    clock, callers, lanes, house = thing
    cells, book, _ = house
    try:
        sums = lets_book(setting, book)
    except NoPaper:
        return False
    answers = {key: answer for key, answer in book}
    if cells != sums or not _are_groups_sound(setting, thing, answers):
        return False
    for k, caller in enumerate(callers):
        if not _is_caller_sound(allowance_of(setting, k), clock, k, caller, answers):
            return False
    return all([_is_letter_sound(setting, thing, letter, answers) for lane in lanes for letter in lane])


def _is_state(setting, thing):
    """Whether a thing is a STATE by kind, but for its book."""
    if not is_row(thing, 4):
        return False
    clock, callers, lanes, house = thing
    if not is_number(clock) or not is_row(callers, len(setting[0])) or not is_row(lanes, 2):
        return False
    if not all([_is_caller(caller, told) for caller, told in zip(setting[0], callers)]):
        return False
    for lane in lanes:
        if not isinstance(lane, tuple) or not all([is_letter_of(setting, letter) for letter in lane]):
            return False
    if not is_row(house, 3):
        return False
    cells, _, groups = house
    if not isinstance(cells, tuple) or not isinstance(groups, tuple):
        return False
    return all([_is_cell(entry) for entry in cells]) and all([_is_group_entry(entry) for entry in groups])


def _is_caller(caller, thing):
    """Whether a thing is what a STATE has of a CALLER, by kind."""
    if not is_row(thing, 3):
        return False
    purse, tries, groups = thing
    if not is_fraction(purse) or not is_number(tries) or not is_row(groups, len(caller[0])):
        return False
    return all([_is_group(group, told) for group, told in zip(caller[0], groups)])


def _is_group(group, thing):
    if not is_row(thing, 2) or not is_number(thing[0]) or not isinstance(thing[1], tuple):
        return False
    return len(thing[1]) <= len(group) and all([_is_call(call) for call in thing[1]])


def _is_call(thing):
    if not is_row(thing, 4):
        return False
    first, last_try, lane, answer = thing
    return is_number(first) and is_number(last_try) and is_lane(lane) and (answer is None or is_answer(answer))


def _is_cell(thing):
    return is_row(thing, 2) and is_word(thing[0]) and is_number(thing[1])


def _is_group_entry(thing):
    if not is_row(thing, 5):
        return False
    pair, turn, floor, answers, waiting = thing
    if not is_number_row(pair, 2) or not is_number(turn) or not is_number(floor):
        return False
    if not isinstance(answers, tuple) or not isinstance(waiting, tuple):
        return False
    return all([is_answer(answer) for answer in answers]) and all([_is_waiting(part) for part in waiting])


def _is_waiting(thing):
    # The rest of it is looked at as that of a LETTER.
    return is_row(thing, 4) and is_number(thing[0])


def _is_caller_sound(allowance, clock, k, caller, answers):
    """Whether what CALLER number k knows goes together, and with the book's ANSWERS."""
    purse, tries, groups = caller
    if is_less(allowance[1], purse) or tries < sum([len(calls) for heard, calls in groups]):
        return False
    for group, (heard, calls) in enumerate(groups):
        if heard != heard_in(calls):
            return False
        for n, (first, last_try, _, answer) in enumerate(calls):
            if not first <= last_try <= clock:
                return False
            if answer is not None and answers.get((k, group, n)) != answer:
                return False
    return True


def _are_groups_sound(setting, state, answers):
    """Whether the house's GROUPS go together with the book's ANSWERS, and with the CALLERS."""
    entries = state[3][2]
    pairs = [entry[0] for entry in entries]
    if not _is_rising(pairs) or not all([key[:2] in pairs for key in answers]):
        return False
    return all([_is_entry_sound(setting, state, entry, answers) for entry in entries])


def _is_entry_sound(setting, state, entry, answers):
    pair, turn, floor, kept, waiting = entry
    if pair not in groups_of(setting) or group_of(setting, pair) == ():
        return False
    caller, group = pair
    # The book has those of a GROUP from 0 on, so how many they are tells which.
    told = [answer for key, answer in answers.items() if key[:2] == pair]
    if turn != len(told) or floor > state[1][caller][2][group][0] or kept != tuple(told[floor:]):
        return False
    if not _is_rising([call[0] for call in waiting]):
        return False
    for n, cell, number, last in waiting:
        # What waits is as an "ask" that heard nothing.
        letter = ("ask", (caller, group, n), cell, number, last, 0)
        if not turn < n < floor + setting[1] or not is_letter_of(setting, letter):
            return False
        if not _is_letter_sound(setting, state, letter, answers):
            return False
    return True


def _is_letter_sound(setting, state, letter, answers):
    """Whether a LETTER OF the SETTING says what the book, or its CALLER, has."""
    key = letter[1]
    if letter[0] == "tell":
        return answers.get(key) == letter[2]
    caller, group, _ = key
    _, _, _, _, last, heard = letter
    call = call_tried(state, key)
    if call is None or last != call[0] + call_of(setting, key)[2]:
        return False
    return heard <= state[1][caller][2][group][0]


def _is_rising(row):
    return all([one < other for one, other in zip(row, row[1:])])

"""[2] and [6] of all modules: nothing handed in is changed, nothing hangs on what was asked before, bounds."""

import copy
import random
import unittest
from fractions import Fraction

from things import ODD_THINGS, SETTING, TIMING, TREE, same

from twicecalls import (barchecker, blaming, books, callers, fractions, kinds, ledgerchecker, letters, linechecker,
                        mill, oneline, orderchecker, outside, purses, records, runs, settings, sound, splitchecker,
                        states, steps, stories, timing, trees, waychecker, waying)
from twicecalls.errors import CallError, LostError
from twicecalls.fractions import fraction_of, plus
from twicecalls.house import asked
from twicecalls.lines import shown_setting
from twicecalls.purses import purse_behind, purse_left
from twicecalls.readings import read_setting
from twicecalls.splitchecker import lets_split
from twicecalls.splitting import dues, split
from twicecalls.trees import need, needs

ALLOWANCE = ((1, 2), (2, 1))
HISTORY = (((0, 0, 0), "till", 5, 0, 3, ("done", 5)),)
LOOKS = [
    kinds.is_number, kinds.is_word, fractions.is_fraction, purses.is_allowance, purses.is_takings, settings.is_call,
    settings.is_group, settings.is_caller, settings.is_setting, settings.is_answer, settings.is_step,
    settings.is_letter, trees.is_tree, records.is_history,
    lambda thing: purse_behind(ALLOWANCE, thing),
    lambda thing: settings.is_key(SETTING, thing),
    lambda thing: settings.call_of(SETTING, thing),
    lambda thing: settings.group_of(SETTING, thing),
    lambda thing: settings.allowance_of(SETTING, thing),
    lambda thing: settings.keys_ahead(SETTING, thing),
    lambda thing: settings.key_behind(SETTING, thing),
    lambda thing: trees.part_at(TREE, thing),
    lambda thing: splitchecker.lets_split(TREE, 30, thing),
    lambda thing: timing.is_timing(TREE, thing),
    lambda thing: blaming.lets_blame(TREE, TIMING, thing),
    lambda thing: books.lets_book(SETTING, thing),
    lambda thing: letters.is_letter_of(SETTING, thing),
    lambda thing: records.words_ahead(HISTORY, thing, (0, 0, 0)),
    lambda thing: records.words_ahead(HISTORY, (0, 0, 0), thing),
    lambda thing: barchecker.lets_bar(HISTORY, thing),
    lambda thing: barchecker.lets_bar(HISTORY, ("ring", thing)),
    lambda thing: linechecker.lets_line(SETTING, thing),
    lambda thing: linechecker.lets_line(SETTING, (("try", thing),)),
    lambda thing: ledgerchecker.lets_ledger(ALLOWANCE, ("first",), thing),
    lambda thing: ledgerchecker.lets_overdraft(ALLOWANCE, ("first",), thing),
    lambda thing: callers.due(SETTING, states.begun(SETTING), thing),
    lambda thing: states.answer_had(SETTING, states.begun(SETTING), thing),
    lambda thing: states.answer_decided(SETTING, states.begun(SETTING), thing),
    lambda thing: steps.stepped(SETTING, states.begun(SETTING), thing),
    lambda thing: runs.run(SETTING, (thing, ("tick",))),
    lambda thing: sound.is_sound(SETTING, thing),
    lambda thing: sound.is_sound(SETTING, (0, *thing, 0) if isinstance(thing, tuple) else (thing,) * 4),
    lambda thing: stories.story_of(SETTING, (("tick",),), thing),
    lambda thing: stories.story_of(SETTING, (thing,), (0, 0, 0)),
    lambda thing: stories.outcomes(SETTING, (thing,)),
    lambda thing: oneline.line_of(SETTING, (thing,)),
    lambda thing: waying.way_of(SETTING, states.begun(SETTING), thing),
    lambda thing: waychecker.lets_way(SETTING, states.begun(SETTING), (0, 0, 0), thing),
    lambda thing: waychecker.lets_way(SETTING, states.begun(SETTING), thing, ()),
    lambda thing: outside.history_of(SETTING, (thing,)),
    lambda thing: orderchecker.lets_order(HISTORY, thing),
    lambda thing: orderchecker.lets_order(HISTORY, (thing,)),
    lambda thing: mill.Mill(SETTING).do(thing),
    lambda thing: mill.Mill(SETTING).run((("tick",), thing)),
    lambda thing: mill.Mill(SETTING).back(thing),
    lambda thing: mill.Mill(SETTING).then(thing),
    lambda thing: mill.Mill(SETTING).known(thing),
    lambda thing: mill.Mill(SETTING) == thing,
]
# Lists in the place of tuples, so that there is something that could be changed.
LISTS = ([0, 0, 0], [(), [1, 1]], [["go", 0]], ["then", 1, [["work", 1]]],
         [[[[["till", 5, 20]]], [1, 2], [2, 1]], 1, 1], ([0], (0, 0)), (([], (5, 1)),), (((), [5, 1]),),
         ("then", 1, [("work", 1)]))


def told(look, thing):
    try:
        return ("told", look(thing))
    except (CallError, LostError) as refusal:
        return (refusal.__class__, *vars(refusal).values())


class TestLooks(unittest.TestCase):
    def test_nothing_is_changed_and_all_is_told_again(self):
        things = (*ODD_THINGS, *LISTS)
        before = copy.deepcopy(things)
        first = [[told(look, thing) for thing in things] for look in LOOKS]
        again = [[told(look, thing) for thing in reversed(things)][::-1] for look in reversed(LOOKS)][::-1]
        self.assertEqual(first, again)
        self.assertTrue(same(things, before))


class TestBounds(unittest.TestCase):
    def test_fractions_of_a_hundred_figures(self):
        chance = random.Random(6)
        for _ in range(200):
            rate, begin = (fraction_of(chance.randrange(10 ** 100), chance.randrange(1, 10 ** 100)) for _ in "ab")
            most = plus(begin, fraction_of(chance.randrange(10 ** 99), 10 ** 99))
            behind = min(Fraction(*begin) + Fraction(*rate), Fraction(*most))
            self.assertEqual(purse_behind((rate, most), "first", begin), (behind.numerator, behind.denominator))

    def test_takings_of_two_hundred_words(self):
        rate = (10 ** 99, 10 ** 100 - 1)
        left = purse_left((rate, (300, 1)), ("first",) * 200, (0, 1))
        self.assertEqual(left, fraction_of(200 * rate[0], rate[1]))

    def test_trees(self):
        tree = ("then", 10 ** 6, (("beside", 10 ** 6, (("then", 10 ** 6, (("work", 10 ** 6),) * 3),) * 2),) +
                (("work", 10 ** 6),) * 2)
        self.assertEqual(len(needs(tree)), 12)
        self.assertEqual(need(tree), 19 * 10 ** 6)
        amounts = split(tree, 10 ** 8)
        self.assertIs(lets_split(tree, 10 ** 8, amounts), True)
        self.assertEqual(dues(tree, amounts)[-1], ((2,), (10 ** 8 - 10 ** 6, 1)))

    def test_timings(self):
        great = 10 ** 6
        tree = ("then", great, (("beside", great, (("then", great, (("work", great),) * 3),) * 2),))
        late = ("then", ((great, great), (great, great), (great, great + 1)), (("work", great),) * 3)
        told_times = ("then", ((great, great),), (("beside", ((great, great),) * 2, (late, late)),))
        self.assertIs(timing.is_timing(tree, told_times), True)
        self.assertEqual(timing.took(told_times), need(tree) + 1)
        self.assertEqual(timing.over(tree, told_times), (("back", (0, 0, 2)), ("back", (0, 1, 2))))
        self.assertEqual(timing.moments(told_times, great)[-1], ((0, 1, 2), 10 * great, 11 * great))
        told = blaming.blame(tree, told_times)
        self.assertEqual(told, (((), (0,), (0, 0)), ("back", 2)))
        self.assertIs(blaming.lets_blame(tree, told_times, told), True)

    def test_settings(self):
        group = (("till", 10 ** 6, 20),) * 6
        setting = ((((group,) * 3, (1, 10 ** 99), (10 ** 99, 1)),) * 3, 9, 9)
        self.assertEqual(len(settings.keys_of(setting)), 54)
        house = ((), (), ())
        for key in reversed(settings.keys_of(setting)):
            house, _, _ = asked(setting, house, 20, ("ask", key, "till", 10 ** 6, 20, 0))
        self.assertEqual(house[0], (("till", 54 * 10 ** 6),))
        self.assertEqual(len(house[1]), 54)
        self.assertEqual(books.lets_book(setting, house[1]), house[0])
        small = ((((group,) * 3, (1, 10 ** 6), (10 ** 6, 1)),) * 3, 9, 9)
        self.assertEqual(read_setting(shown_setting(small)), small)


if __name__ == "__main__":
    unittest.main()

"""[2] and [6] of all modules: nothing handed in is changed, nothing hangs on what was asked before, bounds."""

import copy
import random
import unittest
from fractions import Fraction

from things import ODD_THINGS, SETTING, TREE, same

from twicecalls import fractions, kinds, purses, settings, splitchecker, trees
from twicecalls.errors import CallError, LostError
from twicecalls.fractions import fraction_of, plus
from twicecalls.house import asked
from twicecalls.lines import shown_setting
from twicecalls.purses import purse_behind, purse_left
from twicecalls.readings import read_setting
from twicecalls.splitchecker import lets_split
from twicecalls.splitting import dues, split
from twicecalls.trees import need, needs

ALLOWANCE = ((1, 2), (2, 1))
LOOKS = [
    *(getattr(module, name) for module in (kinds, fractions, purses, settings, trees) for name in sorted(vars(module))
      if name in ("is_number", "is_word", "is_fraction", "is_allowance", "is_takings", "is_call", "is_group",
                  "is_caller", "is_setting", "is_answer", "is_step", "is_letter", "is_tree")),
    lambda thing: purse_behind(ALLOWANCE, thing),
    lambda thing: settings.is_key(SETTING, thing),
    lambda thing: settings.call_of(SETTING, thing),
    lambda thing: settings.group_of(SETTING, thing),
    lambda thing: settings.allowance_of(SETTING, thing),
    lambda thing: settings.keys_ahead(SETTING, thing),
    lambda thing: settings.key_behind(SETTING, thing),
    lambda thing: trees.part_at(TREE, thing),
    lambda thing: splitchecker.lets_split(TREE, 30, thing),
]
# Lists in the place of tuples, so that there is something that could be changed.
LISTS = ([0, 0, 0], [(), [1, 1]], [["go", 0]], ["then", 1, [["work", 1]]],
         [[[[["till", 5, 20]]], [1, 2], [2, 1]], 1, 1], ([0], (0, 0)), (([], (5, 1)),), (((), [5, 1]),), ("then", 1, [("work", 1)]))


def told(look, thing):
    try:
        return ("told", look(thing))
    except (CallError, LostError) as refusal:
        return (refusal.__class__, *vars(refusal).values())


class TestLooks(unittest.TestCase):
    def test_nothing_is_changed_and_all_is_told_again(self):
        things = (*ODD_THINGS, *LISTS)
        before = copy.deepcopy(things)
        first = [[told(look, thing) for thing in things] for look in LOOKS]
        again = [[told(look, thing) for thing in reversed(things)][::-1] for look in reversed(LOOKS)][::-1]
        self.assertEqual(first, again)
        self.assertTrue(same(things, before))


class TestBounds(unittest.TestCase):
    def test_fractions_of_a_hundred_figures(self):
        chance = random.Random(6)
        for _ in range(200):
            rate, begin = (fraction_of(chance.randrange(10 ** 100), chance.randrange(1, 10 ** 100)) for _ in "ab")
            most = plus(begin, fraction_of(chance.randrange(10 ** 99), 10 ** 99))
            behind = min(Fraction(*begin) + Fraction(*rate), Fraction(*most))
            self.assertEqual(purse_behind((rate, most), "first", begin), (behind.numerator, behind.denominator))

    def test_takings_of_two_hundred_words(self):
        rate = (10 ** 99, 10 ** 100 - 1)
        left = purse_left((rate, (300, 1)), ("first",) * 200, (0, 1))
        self.assertEqual(left, fraction_of(200 * rate[0], rate[1]))

    def test_trees(self):
        tree = ("then", 10 ** 6, (("beside", 10 ** 6, (("then", 10 ** 6, (("work", 10 ** 6),) * 3),) * 2),) +
                (("work", 10 ** 6),) * 2)
        self.assertEqual(len(needs(tree)), 12)
        self.assertEqual(need(tree), 19 * 10 ** 6)
        amounts = split(tree, 10 ** 8)
        self.assertIs(lets_split(tree, 10 ** 8, amounts), True)
        self.assertEqual(dues(tree, amounts)[-1], ((2,), (10 ** 8 - 10 ** 6, 1)))

    def test_settings(self):
        group = (("till", 10 ** 6, 20),) * 6
        setting = ((((group,) * 3, (1, 10 ** 99), (10 ** 99, 1)),) * 3, 9, 9)
        self.assertEqual(len(settings.keys_of(setting)), 54)
        house = ((), (), ())
        for key in reversed(settings.keys_of(setting)):
            house, _, _ = asked(setting, house, 20, ("ask", key, "till", 10 ** 6, 20, 0))
        self.assertEqual(house[0], (("till", 54 * 10 ** 6),))
        self.assertEqual(len(house[1]), 54)
        small = ((((group,) * 3, (1, 10 ** 6), (10 ** 6, 1)),) * 3, 9, 9)
        self.assertEqual(read_setting(shown_setting(small)), small)


if __name__ == "__main__":
    unittest.main()

"""The interface: each name in its own file, with its arguments and what is handed in where nothing is."""

import importlib
import inspect
import pathlib
import unittest

import twicecalls

FUNCTIONS = {
    "kinds": ("is_number(thing)", "is_word(thing)"),
    "fractions": ("is_fraction(thing)", "fraction_of(over, under)", "plus(one, other)", "times(one, other)",
                  "lesser(one, other)", "minus(one, other)", "is_less(one, other)", "total_of(fractions)"),
    "house": ("asked(setting, house, clock, letter)", "fallen(setting, house)"),
    "purses": ("is_allowance(thing)", "is_takings(thing)", "purse_behind(allowance, word, begin=None)",
               "fits(allowance, takings, begin=None)", "purse_left(allowance, takings, begin=None)"),
    "settings": ("is_call(thing)", "is_group(thing)", "is_caller(thing)", "is_setting(thing)", "is_answer(thing)",
                 "is_step(thing)", "is_letter(thing)", "keys_of(setting)", "groups_of(setting)", "cells_of(setting)",
                 "is_key(setting, thing)", "call_of(setting, key)", "group_of(setting, pair)",
                 "allowance_of(setting, caller)", "keys_ahead(setting, key)", "key_behind(setting, key)"),
    "trees": ("is_tree(thing)", "places_in(tree)", "part_at(tree, place)", "need(tree)", "needs(tree)"),
    "splitting": ("split(tree, whole, weights=None)", "dues(tree, amounts)"),
    "timing": ("is_timing(tree, thing)", "took(timing)", "moments(timing, begin=0)", "over(tree, timing)",
               "slow(timing, amounts)"),
    "blaming": ("blame(tree, timing)", "lets_blame(tree, timing, thing)"),
    "books": ("lets_book(setting, thing)",),
    "ledgers": ("ledger(allowance, takings, begin=None)", "overdraft(allowance, takings, begin=None)"),
    "ledgerchecker": ("lets_ledger(allowance, takings, thing, begin=None)",
                      "lets_overdraft(allowance, takings, thing, begin=None)"),
    "states": ("begun(setting)", "is_quiet(setting, state)", "all_through(setting, state)",
               "answer_had(setting, state, key)", "answer_decided(setting, state, key)"),
    "callers": ("due(setting, state, caller)", "heard_tell(setting, state, letter)"),
    "forgetting": ("forgotten(setting, state)", "owed(setting, state)"),
    "linechecker": ("lets_line(setting, thing)",),
    "barchecker": ("lets_bar(history, thing)",),
    "letters": ("is_letter_of(setting, thing)",),
    "records": ("is_history(thing)", "low_of(record)", "words_ahead(history, one, other)"),
    "splitchecker": ("lets_split(tree, whole, thing)",),
    "readings": ("read_step(text, line=0)", "read_steps(text)", "read_setting(text)", "read_key(text)"),
    "steps": ("stepped(setting, state, step)",),
    "runs": ("run(setting, steps, state=None, most=400)", "fair_round(setting, state)"),
    "sound": ("is_sound(setting, thing)",),
    "stories": ("story_of(setting, steps, key)", "outcomes(setting, steps)"),
    "oneline": ("line_of(setting, steps)",),
    "waying": ("way_of(setting, state, key)",),
    "waychecker": ("lets_way(setting, state, key, thing)",),
    "fair": ("is_stuck(setting, state)", "fair_run(setting, state)"),
    "outside": ("ordered(history)", "history_of(setting, steps)"),
    "orderchecker": ("lets_order(history, thing)",),
    "lines": ("shown_step(step)", "shown_steps(steps)", "shown_setting(setting)", "shown_key(key)"),
}
CLASSES = {
    "mill": ("Mill(setting)",),
    "desk": ("Desk()",),
    "errors": ("CallError", "LostError", "NoPaper(word, at)", "NoSetting(word)", "NoOrder(bar)", "NoText(line, word)",
               "NoLine(row)", "NoStep(step)", "NoKey(key)", "NoBack(times)"),
}
METHODS = {
    "mill.Mill": ("do(self, step)", "run(self, steps, most=400)", "back(self, times=1)", "then(self, k)",
                  "setting_now(self)", "state_now(self)", "steps_now(self)", "known(self, key)", "open_keys(self)",
                  "book_keys(self)", "history(self)", "purse_of(self, caller)", "calm_steps(self, most=200)",
                  "__len__(self)", "__str__(self)", "__eq__(self, other)"),
    "desk.Desk": ("say(self, row)",),
}


class TestInterface(unittest.TestCase):
    def test_functions(self):
        for file, told in FUNCTIONS.items():
            for line in told:
                name, rest = line.split("(", 1)
                function = getattr(importlib.import_module(f"twicecalls.{file}"), name)
                self.assertEqual(f"({rest}", str(inspect.signature(function)), name)
                self.assertEqual(function.__module__, f"twicecalls.{file}")

    def test_classes(self):
        for file, told in CLASSES.items():
            for line in told:
                name, _, rest = line.partition("(")
                kind = getattr(importlib.import_module(f"twicecalls.{file}"), name)
                self.assertEqual(kind.__module__, f"twicecalls.{file}")
                if rest:
                    self.assertEqual(f"({rest}", str(inspect.signature(kind)), name)
                    self.assertIn("__init__", vars(kind))

    def test_methods(self):
        for place, told in METHODS.items():
            file, name = place.split(".")
            kind = getattr(importlib.import_module(f"twicecalls.{file}"), name)
            for line in told:
                method, rest = line.split("(", 1)
                # In the class itself, not in a base of it alone.
                self.assertEqual(f"({rest}", str(inspect.signature(vars(kind)[method])), line)

    def test_each_module_has_its_row(self):
        files = {path.stem for path in pathlib.Path(twicecalls.__file__).parent.glob("*.py")} - {"__init__"}
        self.assertEqual(files, set(FUNCTIONS) | set(CLASSES))


if __name__ == "__main__":
    unittest.main()

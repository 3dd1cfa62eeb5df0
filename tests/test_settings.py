import unittest

from things import HUGE, KEYS, NO_KEYS, ODD_THINGS, SETTING, same

from twicecalls import settings
from twicecalls.errors import NoKey
from twicecalls.settings import (allowance_of, call_of, cells_of, group_of, groups_of, is_answer, is_call, is_caller,
                                 is_key, is_letter, is_setting, is_step, key_behind, keys_ahead, keys_of)

CALL = ("till", 5, 20)
GROUP = (CALL, ("a", 1, 0))
CALLER = ((GROUP, ()), (1, 2), (2, 1))
RIGHT = {
    "is_call": (CALL, ("a", 1, 0), ("abcdefgh", HUGE, HUGE)),
    "is_group": ((), (CALL,), GROUP, (CALL,) * 100),
    "is_caller": (CALLER, ((), (0, 1), (0, 1)), (((),), (1, 1), (1, 3)), ((GROUP,) * 9, (HUGE, 1), (1, HUGE))),
    "is_setting": (SETTING, ((((), (0, 1), (0, 1)),), 1, 1), ((CALLER,) * 9, HUGE, 10)),
    "is_answer": (("done", 0), ("done", 7), ("done", HUGE), ("late",)),
    "is_step": (("go", 0), ("go", HUGE), ("get", 0, 0), ("get", 1, HUGE), ("lose", 0, 3), ("lose", 1, 0),
                ("double", 0, 0), ("double", 1, 5), ("tick",), ("tear", 0), ("tear", 1), ("fall",)),
    "is_letter": (("ask", (0, 0, 0), "till", 1, 0, 0), ("ask", (9, HUGE, 5), "a", 7, HUGE, HUGE),
                  ("tell", (0, 0, 0), ("late",)), ("tell", (7, 8, 9), ("done", 0))),
}

WRONG = {
    "is_call": (("", 5, 20), ("Till", 5, 20), ("abcdefghi", 5, 20), (1, 5, 20), ("till", 0, 20), ("till", -1, 20),
                ("till", True, 20), ("till", 5, -1), ("till", 5, True), ("till", 5, None), ("till", "5", 20),
                ("till", 5), ("till", 5, 20, 1), ["till", 5, 20], (["till"], 5, 20), ("till", (5,), 20), "abc"),
    "is_group": ([], [CALL], CALL, (CALL, list(CALL)), (CALL, ()), (CALL, None), (("till", 0, 20),), ((CALL,),),
                 (CALL, "abc"), "abc", ""),
    "is_caller": (([GROUP], (1, 2), (2, 1)), ((), (2, 4), (2, 1)), ((), (1, 2), (2, 2)), ((), (1, 2), (1, 0)),
                  ((), [1, 2], (2, 1)), ((), (1, 2), [2, 1]), ((), 1, (2, 1)), ((), (1, True), (2, 1)),
                  ((), (1, 2)), ((), (1, 2), (2, 1), ()), list(CALLER), (None, (1, 2), (2, 1)), ("", (1, 2), (2, 1)),
                  (GROUP, (1, 2), (2, 1)), ((list(GROUP),), (1, 2), (2, 1)), (([],), (1, 2), (2, 1)),
                  ((GROUP, None), (1, 2), (2, 1)), ((("",),), (1, 2), (2, 1)), (0, (1, 2), (2, 1))),
    "is_setting": (((), 1, 1), ([CALLER], 1, 1), ((CALLER,), 0, 1), ((CALLER,), 1, 0), ((CALLER,), -1, 1),
                   ((CALLER,), 1, -1), ((CALLER,), True, 1), ((CALLER,), 1, True), ((CALLER,), None, 1),
                   ((CALLER,), 1, "1"), ((CALLER,), 1), ((CALLER,), 1, 1, 1), [(CALLER,), 1, 1], (CALLER, 1, 1),
                   ((CALLER, list(CALLER)), 1, 1), ((CALLER, ()), 1, 1), ((CALLER, None), 1, 1), (None, 1, 1),
                   ("ab", 1, 1), (((),), 1, 1), (((((("till", 0, 1),),), (1, 1), (1, 1)),), 1, 1)),
    "is_answer": (("done",), ("done", -1), ("done", True), ("done", False), ("done", None), ("done", "1"),
                  ("done", 1, 1), ("late", 1), ("late", None), ("Late",), (None,), ("done", (1,)), ["late"],
                  ["done", 1], "late", "done", ("lat",), (["late"],)),
    "is_step": (("go",), ("go", -1), ("go", True), ("go", False), ("go", None), ("go", "0"), ("go", 0, 0), ["go", 0],
                ("get", 2, 0), ("get", -1, 0), ("get", False, 0), ("get", True, 0), ("get", 0, True), ("get", 0, -1),
                ("get", 0), ("get", 0, 0, 0), ("lose", 2, 0), ("lose", 0), ("double", 2, 0), ("double", 1, -1),
                ("double",), ("tick", 0), ("tick", ()), ["tick"], ("Tick",), "tick", ("tear",), ("tear", 2),
                ("tear", True), ("tear", -1), ("tear", 0, 0), ("fall", 0), ("fal",), ("",), (0,), (None,), (["go"], 0),
                (("go",), 0), ("ask", 0), (True,), ("lose", HUGE, 0), ("first", 0)),
    "is_letter": (("ask", [0, 0, 0], "till", 1, 0, 0), ("ask", (0, 0), "till", 1, 0, 0),
                  ("ask", (0, 0, 0, 0), "till", 1, 0, 0), ("ask", (0, 0, -1), "till", 1, 0, 0),
                  ("ask", (0, True, 0), "till", 1, 0, 0), ("ask", (0, 0, 0), "", 1, 0, 0),
                  ("ask", (0, 0, 0), "Till", 1, 0, 0), ("ask", (0, 0, 0), "till", 0, 0, 0),
                  ("ask", (0, 0, 0), "till", True, 0, 0), ("ask", (0, 0, 0), "till", 1, -1, 0),
                  ("ask", (0, 0, 0), "till", 1, True, 0), ("ask", (0, 0, 0), "till", 1, 0, -1),
                  ("ask", (0, 0, 0), "till", 1, 0, False), ("ask", (0, 0, 0), "till", 1, 0, None),
                  ("ask", (0, 0, 0), "till", 1, 0), ("ask", (0, 0, 0), "till", 1, 0, 0, 0),
                  ["ask", (0, 0, 0), "till", 1, 0, 0], ("tell", (0, 0, 0), "till", 1, 0, 0),
                  ("Ask", (0, 0, 0), "till", 1, 0, 0), ("ask", None, "till", 1, 0, 0),
                  ("tell", (0, 0, 0), ["late"]), ("tell", (0, 0, 0), ("done", -1)), ("tell", (0, 0, 0), ("done", True)),
                  ("tell", (0, 0, 0), None), ("tell", (0, 0), ("late",)), ("tell", [0, 0, 0], ("late",)),
                  ("tell", (0, 0, True), ("late",)), ("tell", (0, 0, 0)), ("tell", (0, 0, 0), ("late",), 0),
                  ["tell", (0, 0, 0), ("late",)], ("ask", (0, 0, 0), ("late",)), (None, (0, 0, 0), ("late",))),
}


class TestKinds(unittest.TestCase):
    def test_right_ones(self):
        for name, things in RIGHT.items():
            for thing in things:
                self.assertIs(getattr(settings, name)(thing), True, (name, thing))
                self.assertIs(getattr(settings, name)(thing=thing), True)

    def test_wrong_ones(self):
        for name, things in WRONG.items():
            for thing in things:
                self.assertIs(getattr(settings, name)(thing), False, (name, thing))

    def test_any_things(self):
        for name in RIGHT:
            for thing in ODD_THINGS:
                told = name == "is_group" and isinstance(thing, tuple) and len(thing) == 0
                self.assertIs(getattr(settings, name)(thing), told, (name, thing))

    def test_right_ones_of_another_kind(self):
        # ("get", 1, 3) is a CALL by its form, too.
        for name, things in RIGHT.items():
            for other in set(RIGHT) - {name}:
                for thing in things:
                    if thing != () and (name, other) != ("is_step", "is_call"):
                        self.assertIs(getattr(settings, other)(thing), False, (other, thing))

    def test_any_thing_in_each_place(self):
        for check, thing in ((is_call, CALL), (is_caller, CALLER), (is_setting, SETTING), (is_answer, ("done", 3)),
                             (is_step, ("get", 1, 3)), (is_letter, ("ask", (0, 0, 0), "till", 1, 0, 0)),
                             (is_letter, ("tell", (0, 0, 0), ("late",)))):
            for k, odd in ((k, odd) for k in range(len(thing)) for odd in ODD_THINGS):
                if odd.__class__ is not thing[k].__class__:
                    self.assertIs(check(thing[:k] + (odd,) + thing[k + 1:]), False, (thing, k, odd))


class TestFound(unittest.TestCase):
    def refused(self, thing, look):
        with self.assertRaises(NoKey) as caught:
            look()
        self.assertIs(caught.exception.key, thing)

    def test_keys(self):
        self.assertTrue(same(keys_of(SETTING), KEYS))
        self.assertEqual(keys_of(((((), (0, 1), (0, 1)),), 1, 1)), ())
        self.assertEqual(keys_of((((((), ()), (0, 1), (0, 1)),), 1, 1)), ())

    def test_groups(self):
        self.assertTrue(same(groups_of(SETTING), ((0, 0), (0, 1), (0, 2), (2, 0))))
        self.assertEqual(groups_of(((((), (0, 1), (0, 1)),), 1, 1)), ())

    def test_cells(self):
        self.assertTrue(same(cells_of(SETTING), ("box", "safe", "till")))
        self.assertEqual(cells_of((((((), ()), (0, 1), (0, 1)),), 1, 1)), ())

    def test_is_key(self):
        for thing in KEYS:
            self.assertIs(is_key(SETTING, thing), True)
        for thing in (*NO_KEYS, *ODD_THINGS):
            self.assertIs(is_key(SETTING, thing), False, thing)
        self.assertIs(is_key(SETTING, (0, 0, 1)), True)
        self.assertIs(is_key(SETTING, (0, 0, True)), False)

    def test_calls(self):
        self.assertEqual([call_of(SETTING, key) for key in KEYS],
                         [("till", 5, 20), ("till", 1, 0), ("safe", 2, 3), ("till", 7, 1), ("safe", 4, 9),
                          ("box", 1, 0)])
        for thing in (*NO_KEYS, *ODD_THINGS):
            self.refused(thing, lambda: call_of(SETTING, thing))

    def test_groups_by_pairs(self):
        self.assertEqual(group_of(SETTING, (0, 0)), SETTING[0][0][0][0])
        self.assertEqual(group_of(SETTING, (0, 1)), ())
        self.assertEqual(group_of(SETTING, (2, 0)), (("box", 1, 0),))
        for thing in ((0, 3), (1, 0), (3, 0), (-1, 0), (0, -1), (False, 0), (0, False), (0, True), [0, 0], (0,),
                      (0, 0, 0), (0, HUGE), (HUGE, 0), ("0", 0), (None, 0), "00", *ODD_THINGS):
            self.refused(thing, lambda: group_of(SETTING, thing))

    def test_allowances(self):
        self.assertTrue(same(allowance_of(SETTING, 0), ((1, 2), (2, 1))))
        self.assertTrue(same(allowance_of(SETTING, 1), ((0, 1), (1, 3))))
        self.assertTrue(same(allowance_of(SETTING, 2), ((3, 1), (0, 1))))
        for thing in (3, -1, True, False, None, "0", (0,), [0], HUGE, *ODD_THINGS):
            if thing.__class__ is not int or not 0 <= thing < 3:
                self.refused(thing, lambda: allowance_of(SETTING, thing))

    def test_ahead_and_behind(self):
        self.assertTrue(same(keys_ahead(SETTING, (0, 0, 0)), ()))
        self.assertTrue(same(keys_ahead(SETTING, (0, 0, 3)), ((0, 0, 0), (0, 0, 1), (0, 0, 2))))
        self.assertTrue(same(keys_ahead(SETTING, (2, 0, 0)), ()))
        self.assertTrue(same(key_behind(SETTING, (0, 0, 0)), (0, 0, 1)))
        self.assertTrue(same(key_behind(SETTING, (0, 0, 2)), (0, 0, 3)))
        for key in ((0, 0, 3), (0, 2, 0), (2, 0, 0)):
            self.assertIsNone(key_behind(SETTING, key))
        for thing in (*NO_KEYS, *ODD_THINGS):
            self.refused(thing, lambda: keys_ahead(SETTING, thing))
            self.refused(thing, lambda: key_behind(SETTING, thing))

    def test_what_follows(self):
        keys = keys_of(SETTING)
        self.assertEqual(keys, tuple(sorted(set(keys))))
        self.assertEqual(len(keys), sum(len(group_of(SETTING, pair)) for pair in groups_of(SETTING)))
        for key in keys:
            self.assertEqual(len(keys_ahead(SETTING, key)), key[2])
            for ahead in keys_ahead(SETTING, key):
                self.assertIs(is_key(SETTING, ahead), True)
            if key[2] > 0:
                self.assertEqual(key_behind(SETTING, keys_ahead(SETTING, key)[-1]), key)

    def test_a_call_more_behind_a_group(self):
        callers, window, patience = SETTING
        groups, rate, most = callers[0]
        more = (((*groups[:1], (("new", 9, 9),), *groups[2:]), rate, most), *callers[1:])
        other = (more, window, patience)
        self.assertEqual(set(keys_of(other)) - set(keys_of(SETTING)), {(0, 1, 0)})
        for key in keys_of(SETTING):
            self.assertEqual(call_of(other, key), call_of(SETTING, key))

    def test_by_names(self):
        self.assertEqual(keys_of(setting=SETTING), KEYS)
        self.assertEqual(groups_of(setting=SETTING), groups_of(SETTING))
        self.assertEqual(cells_of(setting=SETTING), cells_of(SETTING))
        self.assertIs(is_key(thing=(0, 0, 0), setting=SETTING), True)
        self.assertEqual(call_of(key=(0, 0, 0), setting=SETTING), CALL)
        self.assertEqual(group_of(pair=(0, 1), setting=SETTING), ())
        self.assertEqual(allowance_of(caller=0, setting=SETTING), ((1, 2), (2, 1)))
        self.assertEqual(keys_ahead(key=(0, 0, 1), setting=SETTING), ((0, 0, 0),))
        self.assertEqual(key_behind(key=(0, 0, 0), setting=SETTING), (0, 0, 1))


if __name__ == "__main__":
    unittest.main()

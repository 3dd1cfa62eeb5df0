import copy
import random
import unittest

from plain import many_runs
from things import HUGE, ODD_THINGS, SETTING, same

from twicecalls.callers import due, heard_tell
from twicecalls.errors import LostError, NoStep
from twicecalls.states import begun

CALLS = (("till", 5, 20),) * 4
VOID_HOUSE = ((), (), ())
DONE, LATE = ("done", 5), ("late",)


def setting_of(*groups, window=2, patience=3):
    """The CALLER asked for is number 1 of three."""
    other = (((("box", 1, 1),),), (1, 1), (1, 1))
    return ((other, (groups, (1, 2), (2, 1)), other), window, patience)


def state_of(*groups, purse=(2, 1), tries=0, clock=9):
    other = ((1, 1), 1, ((0, ()),))
    return (clock, (other, (purse, tries, groups), other), ((), ()), VOID_HOUSE)


class TestFirstTry(unittest.TestCase):
    def test_at_the_beginning(self):
        self.assertTrue(same(due(SETTING, begun(SETTING), 0), ("first", (0, 0, 0), 0)))
        self.assertTrue(same(due(SETTING, begun(SETTING), 1), ("nothing",)))
        self.assertTrue(same(due(SETTING, begun(SETTING), 2), ("first", (2, 0, 0), 0)))
        self.assertTrue(same(due(caller=2, state=begun(SETTING), setting=SETTING), ("first", (2, 0, 0), 0)))

    def test_the_first_group_within_its_window(self):
        setting = setting_of((), CALLS, CALLS)
        one = (8, 8, 0, None)
        self.assertTrue(same(due(setting, state_of((0, ()), (0, ()), (0, ())), 1), ("first", (1, 1, 0), 0)))
        self.assertTrue(same(due(setting, state_of((0, ()), (0, (one,)), (0, ())), 1), ("first", (1, 1, 1), 0)))
        # One passed over whose window is full.
        self.assertTrue(same(due(setting, state_of((0, ()), (0, (one,) * 2), (0, ())), 1), ("first", (1, 2, 0), 0)))
        self.assertTrue(same(due(setting, state_of((0, ()), (0, (one,) * 2), (0, (one,) * 2)), 1), ("nothing",)))

    def test_the_window_goes_with_what_was_heard(self):
        setting = setting_of(CALLS)
        none, had = (8, 8, 0, None), (8, 8, 0, DONE)
        self.assertTrue(same(due(setting, state_of((1, (had, none))), 1), ("first", (1, 0, 2), 0)))
        self.assertTrue(same(due(setting, state_of((0, (none, had))), 1), ("nothing",)))
        self.assertTrue(same(due(setting, state_of((2, (had, had, none))), 1), ("first", (1, 0, 3), 0)))
        self.assertTrue(same(due(setting, state_of((4, (had,) * 4)), 1), ("nothing",)))
        for window, told in ((1, ("nothing",)), (2, ("first", (1, 0, 1), 0)), (9, ("first", (1, 0, 1), 0))):
            self.assertEqual(due(setting_of(CALLS, window=window), state_of((0, (none,))), 1), told)

    def test_the_lane(self):
        for tries, lane in ((0, 0), (1, 1), (2, 0), (7, 1), (10 ** 30, 0)):
            self.assertTrue(same(due(setting_of(CALLS), state_of((0, ()), tries=tries), 1), ("first", (1, 0, 0), lane)))

    def test_without_a_purse(self):
        self.assertEqual(due(setting_of(CALLS), state_of((0, ()), purse=(0, 1)), 1), ("first", (1, 0, 0), 0))

    def test_ahead_of_a_further_try(self):
        old = (0, 0, 0, None)
        self.assertEqual(due(setting_of(CALLS), state_of((0, (old,))), 1), ("first", (1, 0, 1), 0))
        self.assertEqual(due(setting_of(CALLS, CALLS), state_of((0, (old, old)), (0, ())), 1), ("first", (1, 1, 0), 0))


class TestFurtherTry(unittest.TestCase):
    def test_just_patience_ago(self):
        setting = setting_of(CALLS[:1])
        for last_try, told in ((6, ("further", (1, 0, 0), 1)), (7, ("nothing",)), (5, ("further", (1, 0, 0), 1)),
                               (9, ("nothing",)), (0, ("further", (1, 0, 0), 1))):
            self.assertTrue(same(due(setting, state_of((0, ((0, last_try, 0, None),))), 1), told), last_try)
        self.assertEqual(due(setting, state_of((0, ((0, 0, 0, None),)), clock=2), 1), ("nothing",))
        self.assertEqual(due(setting, state_of((0, ((0, 0, 0, None),)), clock=3), 1), ("further", (1, 0, 0), 1))
        # Its last try, not its first one.
        self.assertEqual(due(setting_of(CALLS[:1], patience=9), state_of((0, ((0, 0, 0, None),))), 1),
                         ("further", (1, 0, 0), 1))
        self.assertEqual(due(setting_of(CALLS[:1], patience=9), state_of((0, ((0, 1, 0, None),))), 1), ("nothing",))

    def test_just_a_whole(self):
        setting = setting_of(CALLS[:1])
        for purse, told in (((1, 1), ("further", (1, 0, 0), 1)), ((99, 100), ("nothing",)), ((0, 1), ("nothing",)),
                            ((101, 100), ("further", (1, 0, 0), 1)), ((10 ** 40 - 1, 10 ** 40), ("nothing",)),
                            ((3, 2), ("further", (1, 0, 0), 1))):
            self.assertTrue(same(due(setting, state_of((0, ((0, 0, 0, None),)), purse=purse), 1), told), purse)

    def test_the_other_lane_than_that_of_its_last_try(self):
        for lane, other in ((0, 1), (1, 0)):
            for tries in (1, 2, 5):
                state = state_of((0, ((0, 2, lane, None),)), tries=tries)
                self.assertTrue(same(due(setting_of(CALLS[:1]), state, 1), ("further", (1, 0, 0), other)))

    def test_the_first_groups_least_n(self):
        setting = setting_of(CALLS[:3], (), CALLS[:2], window=9)
        old, new, had = (0, 0, 1, None), (0, 8, 1, None), (0, 0, 1, LATE)
        for groups, key in ((((0, (old, old, old)), (0, ()), (0, (old, old))), (1, 0, 0)),
                            (((0, (new, old, old)), (0, ()), (0, (old, old))), (1, 0, 1)),
                            (((1, (had, had, old)), (0, ()), (0, (old, old))), (1, 0, 2)),
                            (((0, (new, had, new)), (0, ()), (0, (old, old))), (1, 2, 0)),
                            (((3, (had, had, had)), (0, ()), (1, (had, old))), (1, 2, 1))):
            self.assertTrue(same(due(setting, state_of(*groups), 1), ("further", key, 0)), key)
        self.assertTrue(same(due(setting, state_of((3, (had,) * 3), (0, ()), (1, (had, new))), 1), ("nothing",)))

    def test_nothing_where_all_is_answered(self):
        self.assertTrue(same(due(setting_of(), state_of(), 1), ("nothing",)))
        self.assertTrue(same(due(setting_of(CALLS[:1]), state_of((1, ((0, 0, 0, DONE),))), 1), ("nothing",)))


class TestDue(unittest.TestCase):
    def test_no_such_caller(self):
        for caller in (3, HUGE, -1, -3, True, False, None, "0", "", (0,), [0], ("go", 0), *ODD_THINGS):
            if caller.__class__ is int and 0 <= caller < 3:
                continue
            with self.assertRaises(NoStep) as caught:
                due(SETTING, begun(SETTING), caller)
            self.assertIsInstance(caught.exception, LostError)
            step = caught.exception.step
            self.assertTrue(isinstance(step, tuple) and len(step) == 2 and step[0] == "go")
            self.assertIs(step[1], caller)

    def test_against_a_plain_one(self):
        told = {}
        for run in many_runs(random.Random(43), 150):
            state = run.state()
            before = copy.deepcopy((run.setting, state))
            for caller in range(len(run.callers)):
                event = due(run.setting, state, caller)
                told[event[0]] = told.get(event[0], 0) + 1
                self.assertTrue(same(event, run.due(caller)))
            self.assertTrue(same((run.setting, state), before))
        self.assertGreater(min(told[word] for word in ("first", "further", "nothing")), 100)


class TestHeardTell(unittest.TestCase):
    def check(self, setting, state, letter, behind):
        before = copy.deepcopy((setting, state, letter))
        self.assertTrue(same(heard_tell(setting, state, letter), behind))
        self.assertTrue(same((setting, state, letter), before))

    def test_of_one_without_answer(self):
        setting, none = setting_of(CALLS), (1, 7, 0, None)
        for answer in (DONE, LATE, ("done", 0)):
            self.check(setting, state_of((0, (none,))), ("tell", (1, 0, 0), answer),
                       state_of((1, ((1, 7, 0, answer),))))
        self.check(setting, state_of((0, (none, none))), ("tell", (1, 0, 1), DONE),
                   state_of((0, (none, (1, 7, 0, DONE)))))

    def test_all_else_stays(self):
        setting, none = setting_of((), CALLS, CALLS), (1, 7, 1, None)
        letters = ((("tell", (1, 1, 0), LATE),), (("tell", (1, 2, 0), LATE),))
        state = (*state_of((0, ()), (0, (none,)), (0, (none, none)), purse=(1, 3), tries=4)[:2], letters, VOID_HOUSE)
        behind = (*state_of((0, ()), (0, (none,)), (1, ((1, 7, 1, LATE), none)), purse=(1, 3), tries=4)[:2], letters,
                  VOID_HOUSE)
        self.check(setting, state, ("tell", (1, 2, 0), LATE), behind)

    def test_of_one_that_has_it(self):
        setting, had = setting_of(CALLS), (1, 7, 0, DONE)
        for answer in (DONE, LATE, ("done", 99)):
            state = state_of((1, (had, (2, 2, 1, None))))
            self.check(setting, state, ("tell", (1, 0, 0), answer), state)

    def test_of_one_not_tried(self):
        state = state_of((0, ((1, 7, 0, None),)))
        for n in (1, 2, 3):
            self.check(setting_of(CALLS), state, ("tell", (1, 0, n), DONE), state)
        self.check(SETTING, begun(SETTING), ("tell", (2, 0, 0), LATE), begun(SETTING))

    def test_heard_rises_over_what_was_there_already(self):
        setting, none, had, late = setting_of(CALLS), (1, 7, 0, None), (2, 2, 1, DONE), (3, 3, 1, LATE)
        told = (1, 7, 0, LATE)
        for calls, behind, heard in (((none, had, late), (told, had, late), 3),
                                     ((none, had, none), (told, had, none), 2),
                                     ((none, none, had), (told, none, had), 1),
                                     ((none, had, late, had), (told, had, late, had), 4),
                                     ((none,), (told,), 1)):
            self.check(setting, state_of((0, calls)), ("tell", (1, 0, 0), LATE), state_of((heard, behind)))
        self.check(setting, state_of((1, (had, none, late, none))), ("tell", (1, 0, 1), LATE),
                   state_of((3, (had, told, late, none))))
        self.check(setting, state_of((1, (had, none, late, none))), ("tell", (1, 0, 3), LATE),
                   state_of((1, (had, none, late, told))))

    def test_by_names(self):
        state = state_of((0, ((1, 7, 0, None),)))
        self.assertEqual(heard_tell(letter=("tell", (1, 0, 0), DONE), state=state, setting=setting_of(CALLS)),
                         state_of((1, ((1, 7, 0, DONE),))))

    def test_against_a_plain_one(self):
        chance, new = random.Random(44), 0
        for run in many_runs(chance, 120):
            state, keys = run.state(), run.keys()
            if not keys:
                continue
            key = chance.choice(sorted(run.calls) or keys)
            answer = run.house.book.get(key, LATE)
            told = heard_tell(run.setting, state, ("tell", key, answer))
            other = copy.deepcopy(run)
            new += other.tell(key, answer)
            self.assertTrue(same(told, other.state()))
        self.assertGreater(new, 300)


if __name__ == "__main__":
    unittest.main()

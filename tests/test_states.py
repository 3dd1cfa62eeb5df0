import copy
import random
import unittest

from plain import PlainRun, many_runs, setting_made
from things import KEYS, NO_KEYS, ODD_THINGS, SETTING, same

from twicecalls.errors import LostError, NoKey
from twicecalls.house import asked
from twicecalls.letters import is_letter_of
from twicecalls.states import all_through, answer_decided, answer_had, begun, is_quiet

# SETTING with three CALLS tried: one has its ANSWER, one was DECIDED and isn't told, one waits at the house.
STATE = (
    4,
    (((3, 2), 4, ((1, ((0, 0, 0, ("done", 5)), (2, 3, 0, None))), (0, ()), (0, ((4, 4, 1, None),)))),
     ((1, 3), 0, ()),
     ((0, 1), 0, ((0, ()),))),
    ((("tell", (0, 0, 1), ("late",)),), (("ask", (0, 2, 0), "safe", 4, 13, 0),)),
    ((("till", 5),), (((0, 0, 0), ("done", 5)), ((0, 0, 1), ("late",))),
     (((0, 0), 2, 0, (("done", 5), ("late",)), ()),)),
)
NOTHING = ((((), (0, 1), (7, 2)), (((), ()), (1, 1), (1, 1))), 1, 1)


def turned(state, k, part):
    return (*state[:k], part, *state[k + 1:])


def waits(*calls):
    return ((), (), (((0, 0), 0, 0, (), ()), ((0, 2), 0, 0, (), calls)))


class TestBegun(unittest.TestCase):
    def test_void_groups_and_callers_without_groups(self):
        self.assertTrue(same(begun(SETTING), (
            0, (((2, 1), 0, ((0, ()), (0, ()), (0, ()))), ((1, 3), 0, ()), ((0, 1), 0, ((0, ()),))),
            ((), ()), ((), (), ()))))
        self.assertTrue(same(begun(NOTHING), (
            0, (((7, 2), 0, ()), ((1, 1), 0, ((0, ()), (0, ())))), ((), ()), ((), (), ()))))
        self.assertTrue(same(begun(setting=SETTING), begun(SETTING)))

    def test_against_a_plain_one(self):
        chance = random.Random(4)
        for _ in range(100):
            setting = setting_made(chance)
            before = copy.deepcopy(setting)
            self.assertTrue(same(begun(setting), PlainRun(setting).state()))
            self.assertTrue(same(setting, before))


class TestQuiet(unittest.TestCase):
    def test_at_the_beginning(self):
        self.assertIs(is_quiet(SETTING, begun(SETTING)), True)
        self.assertIs(is_quiet(state=begun(NOTHING), setting=NOTHING), True)

    def test_a_letter_on_either_lane(self):
        tell, ask = STATE[2][0][0], STATE[2][1][0]
        for lanes in (((tell,), ()), ((), (tell,)), ((ask,), ()), ((), (ask,)), ((tell,), (ask,))):
            self.assertIs(is_quiet(SETTING, turned(begun(SETTING), 2, lanes)), False)
            self.assertIs(is_quiet(SETTING, turned(STATE, 2, lanes)), False)
        self.assertIs(is_quiet(SETTING, turned(STATE, 2, ((), ()))), True)

    def test_one_that_waits(self):
        for calls in (((0, "safe", 4, 9),), ((1, "till", 1, 0), (2, "safe", 2, 3))):
            self.assertIs(is_quiet(SETTING, turned(begun(SETTING), 3, waits(*calls))), False)
        self.assertIs(is_quiet(SETTING, turned(begun(SETTING), 3, waits())), True)
        # In the first of more GROUPS alone.
        house = ((), (), (((0, 0), 0, 0, (), ((1, "till", 1, 0),)), ((0, 2), 0, 0, (), ())))
        self.assertIs(is_quiet(SETTING, turned(begun(SETTING), 3, house)), False)

    def test_many(self):
        told = set()
        for run in many_runs(random.Random(40), 60):
            plain = not run.lanes[0] and not run.lanes[1]
            plain = plain and not any(group["waits"] for group in run.house.groups.values())
            told.add(plain)
            self.assertIs(is_quiet(run.setting, run.state()), plain)
        self.assertEqual(told, {True, False})


class TestAllThrough(unittest.TestCase):
    def test_without_calls(self):
        self.assertIs(all_through(NOTHING, begun(NOTHING)), True)
        self.assertIs(all_through(state=begun(NOTHING), setting=NOTHING), True)

    def test_not_yet(self):
        self.assertIs(all_through(SETTING, begun(SETTING)), False)
        self.assertIs(all_through(SETTING, STATE), False)

    def test_the_last_one_lacks(self):
        setting = (((((("till", 5, 20), ("till", 1, 0)),), (1, 2), (2, 1)),), 2, 3)

        def state(heard, *calls):
            return (9, (((1, 1), 5, ((heard, calls),)),), ((), ()), ((), (), ()))
        done, late, none = (0, 0, 0, ("done", 5)), (1, 1, 1, ("late",)), (2, 2, 1, None)
        self.assertIs(all_through(setting, state(2, done, late)), True)
        self.assertIs(all_through(setting, state(1, done, none)), False)
        self.assertIs(all_through(setting, state(0, none, late)), False)
        self.assertIs(all_through(setting, state(1, done)), False)
        self.assertIs(all_through(setting, state(0)), False)

    def test_many(self):
        told = set()
        for run in many_runs(random.Random(41), 80, 90):
            plain = all(run.calls.get(key, [None])[-1] is not None for key in run.keys())
            told.add(plain)
            self.assertIs(all_through(run.setting, run.state()), plain)
        self.assertEqual(told, {True, False})


class TestAnswers(unittest.TestCase):
    def refused(self, look, key, state=STATE):
        with self.assertRaises(NoKey) as caught:
            look(SETTING, state, key)
        self.assertIsInstance(caught.exception, LostError)
        self.assertIs(caught.exception.key, key)

    def test_had(self):
        self.assertTrue(same(answer_had(SETTING, STATE, (0, 0, 0)), ("done", 5)))
        for key in KEYS[1:]:
            self.assertIsNone(answer_had(SETTING, STATE, key))
        for key in KEYS:
            self.assertIsNone(answer_had(SETTING, begun(SETTING), key))
        self.assertEqual(answer_had(key=(0, 0, 0), state=STATE, setting=SETTING), ("done", 5))

    def test_decided(self):
        self.assertTrue(same(answer_decided(SETTING, STATE, (0, 0, 0)), ("done", 5)))
        # Decided, but not had.
        self.assertTrue(same(answer_decided(SETTING, STATE, (0, 0, 1)), ("late",)))
        for key in KEYS[2:]:
            self.assertIsNone(answer_decided(SETTING, STATE, key))
        for key in KEYS:
            self.assertIsNone(answer_decided(SETTING, begun(SETTING), key))
        self.assertEqual(answer_decided(key=(0, 0, 1), state=STATE, setting=SETTING), ("late",))

    def test_no_keys(self):
        for key in (*NO_KEYS, *ODD_THINGS):
            for look in (answer_had, answer_decided):
                self.refused(look, key)
                self.refused(look, key, begun(SETTING))

    def test_many(self):
        had, decided = set(), set()
        for run in many_runs(random.Random(42), 60):
            state = run.state()
            for key in run.keys():
                plain = run.calls.get(key, [None])[-1]
                had.add(plain)
                self.assertTrue(same(answer_had(run.setting, state, key), plain))
                plain = run.house.book.get(key)
                decided.add(plain)
                self.assertTrue(same(answer_decided(run.setting, state, key), plain))
        self.assertLessEqual({None, ("late",)}, had & decided)

    def test_nothing_is_changed(self):
        before = copy.deepcopy(STATE)
        for look in (is_quiet, all_through):
            look(SETTING, STATE)
        answer_had(SETTING, STATE, (0, 0, 0))
        answer_decided(SETTING, STATE, (0, 0, 0))
        self.assertTrue(same(STATE, before))


class TestHandedInAgain(unittest.TestCase):
    def test_houses_and_letters(self):
        # [51]: letters of the LANES go to a house of a STATE, and are LETTERS OF the SETTING.
        for run in many_runs(random.Random(51), 20):
            state = run.state()
            for lane in state[2]:
                for letter in lane:
                    self.assertIs(is_letter_of(run.setting, letter), True)
                    if letter[0] == "ask":
                        house, _, _ = asked(run.setting, state[3], state[0], letter)
                        again = asked(run.setting, house, state[0], letter)
                        self.assertEqual(again[0], house)


if __name__ == "__main__":
    unittest.main()

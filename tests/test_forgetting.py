import copy
import random
import unittest

from plain import PlainRun, many_runs
from things import SETTING, same

from twicecalls.forgetting import forgotten, owed
from twicecalls.settings import is_key
from twicecalls.states import answer_decided, answer_had, begun

DONE, LATE = ("done", 5), ("late",)
GROUP = (("till", 5, 20),) * 3
THREE = (((((GROUP, (), GROUP)), (1, 1), (1, 1)), ((GROUP,), (1, 1), (1, 1))), 3, 1)


def steps(run, *told):
    for step in told:
        run.step(step)
    return run.state()


class TestForgotten(unittest.TestCase):
    def test_none(self):
        self.assertTrue(same(forgotten(SETTING, begun(SETTING)), ()))
        self.assertTrue(same(forgotten(state=begun(SETTING), setting=SETTING), ()))
        house = ((), (((0, 0, 0), LATE),), (((0, 0), 1, 0, (LATE,), ()),))
        self.assertTrue(same(forgotten(SETTING, (*begun(SETTING)[:3], house)), ()))

    def test_of_more_groups(self):
        house = ((), (), (((0, 0), 3, 2, (LATE,), ()), ((0, 2), 3, 0, (LATE,) * 3, ()), ((1, 0), 3, 3, (), ())))
        state = (*begun(THREE)[:3], house)
        before = copy.deepcopy(state)
        self.assertTrue(same(forgotten(THREE, state), ((0, 0, 0), (0, 0, 1), (1, 0, 0), (1, 0, 1), (1, 0, 2))))
        self.assertTrue(same(state, before))

    def test_what_an_ask_says_is_forgotten(self):
        run = PlainRun(THREE)
        state = steps(run, ("go", 0), ("get", 0, 0), ("get", 0, 0))
        self.assertTrue(same(forgotten(THREE, state), ()))
        # The next letter says that the first CALL's ANSWER was heard.
        state = steps(run, ("go", 0), ("get", 1, 0))
        self.assertTrue(same(forgotten(THREE, state), ((0, 0, 0),)))
        self.assertTrue(same(owed(THREE, state), ((0, 0, 1),)))


class TestOwed(unittest.TestCase):
    def test_none(self):
        self.assertTrue(same(owed(SETTING, begun(SETTING)), ()))
        self.assertTrue(same(owed(state=begun(SETTING), setting=SETTING), ()))

    def test_of_more_groups_rising(self):
        run = PlainRun(THREE)
        state = steps(run, ("go", 1), ("get", 0, 0), ("go", 0), ("go", 0), ("get", 1, 0), ("get", 0, 1))
        self.assertEqual([key for key, _ in state[3][1]], [(1, 0, 0), (0, 0, 0), (0, 0, 1)])
        self.assertTrue(same(owed(THREE, state), ((0, 0, 0), (0, 0, 1), (1, 0, 0))))
        before = copy.deepcopy(state)
        self.assertTrue(same(owed(THREE, state), owed(THREE, state)))
        self.assertTrue(same(state, before))
        # The ANSWER of the first comes.
        state = steps(run, ("get", 0, 0))
        self.assertTrue(same(owed(THREE, state), ((0, 0, 0), (0, 0, 1))))

    def test_those_that_are_lost_are_owed_all_the_same(self):
        run = PlainRun(THREE)
        state = steps(run, ("go", 0), ("get", 0, 0), ("tear", 0), ("fall",))
        self.assertTrue(same(owed(THREE, state), ((0, 0, 0),)))
        state = steps(run, ("tick",), ("go", 0), ("go", 0), ("lose", 0, 0))
        self.assertTrue(same(owed(THREE, state), ((0, 0, 0),)))


class TestBoth(unittest.TestCase):
    def test_against_a_plain_one(self):
        most = [0, 0]
        for run in many_runs(random.Random(60), 150, 90):
            state, house = run.state(), run.house
            told, debts = forgotten(run.setting, state), owed(run.setting, state)
            most = [max(most[0], len(told)), max(most[1], len(debts))]
            plain = sorted((*pair, n) for pair, group in house.groups.items() for n in range(group["floor"]))
            self.assertTrue(same(told, tuple(plain)))
            plain = sorted(key for key in house.book if run.calls[key][3] is None)
            self.assertTrue(same(debts, tuple(plain)))
            self.check_what_follows(run, state, told, debts)
        self.assertGreater(min(most), 3)

    def check_what_follows(self, run, state, told, debts):
        for key in told:
            self.assertIsNotNone(answer_had(run.setting, state, key))
        for key in debts:
            self.assertIs(is_key(run.setting, key), True)
            group = run.house.groups[key[:2]]
            self.assertLessEqual(group["floor"], key[2])
            self.assertIsNotNone(answer_decided(run.setting, state, key))


if __name__ == "__main__":
    unittest.main()

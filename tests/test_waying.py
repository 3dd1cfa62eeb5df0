import copy
import random
import unittest

from plain import made_run
from things import KEYS, NO_KEYS, ODD_THINGS, SETTING, same

from twicecalls.errors import LostError, NoKey
from twicecalls.fair import fair_run
from twicecalls.runs import run
from twicecalls.states import answer_had, begun
from twicecalls.waychecker import lets_way
from twicecalls.waying import way_of

TICK = ("tick",)


class TestWayOf(unittest.TestCase):
    def way(self, setting, state, key):
        """A WAY, looked at by the checker; None where the FAIR RUN brings no ANSWER."""
        before = copy.deepcopy((setting, state, key))
        way = way_of(setting, state, key)
        self.assertTrue(same((setting, state, key), before))
        brings = answer_had(setting, fair_run(setting, state)[3], key) is not None
        self.assertEqual(way is not None, brings)
        if way is not None:
            self.assertTrue(same(lets_way(setting, state, key, way), len(way)))
            self.assertLessEqual({step[0] for step in way}, {"go", "get", "tick"})
        return way

    def test_of_each_key_from_the_beginning(self):
        for key in KEYS:
            self.assertGreater(len(self.way(SETTING, begun(SETTING), key)), 2)
        self.assertEqual(way_of(key=(0, 0, 0), state=begun(SETTING), setting=SETTING),
                         way_of(SETTING, begun(SETTING), (0, 0, 0)))

    def test_none_of_steps_where_the_answer_is_there(self):
        state, _ = run(SETTING, (("go", 0), ("get", 0, 0), ("get", 0, 0)))
        self.assertTrue(same(self.way(SETTING, state, (0, 0, 0)), ()))
        self.assertNotEqual(self.way(SETTING, state, (0, 0, 1)), ())
        # Though the others are stuck.
        caller = (((("till", 5, 9),) * 2,), (0, 1), (0, 1))
        setting = ((caller,), 2, 3)
        state, _ = run(setting, (("go", 0), ("go", 0), ("get", 0, 0), ("get", 0, 0), ("tear", 1)))
        self.assertTrue(same(self.way(setting, state, (0, 0, 0)), ()))
        self.assertIsNone(self.way(setting, state, (0, 0, 1)))

    def test_none_where_it_brings_none(self):
        caller = (((("till", 5, 9),) * 2,), (0, 1), (1, 1))
        setting = ((caller,), 2, 3)
        state, _ = run(setting, (("go", 0), ("go", 0), ("tear", 0), ("tear", 1)))
        # The purse is enough for the first of both.
        self.assertIsNotNone(self.way(setting, state, (0, 0, 0)))
        self.assertIsNone(self.way(setting, state, (0, 0, 1)))

    def test_no_key(self):
        stuck = run(SETTING, (("go", 0), ("tear", 0)))[0]
        for key in (*NO_KEYS, *ODD_THINGS):
            for state in (begun(SETTING), stuck):
                with self.assertRaises(NoKey) as caught:
                    way_of(SETTING, state, key)
                self.assertIsInstance(caught.exception, LostError)
                self.assertIs(caught.exception.key, key)

    def test_many(self):
        chance, told = random.Random(62), {"none": 0, "void": 0, "some": 0}
        for _ in range(120):
            plain = made_run(chance, chance.randrange(90), chance.choice((0.1, 0.3, 0.6)))
            for key in plain.keys():
                way = self.way(plain.setting, plain.state(), key)
                told["none" if way is None else "some" if way else "void"] += 1
                if way == ():
                    self.assertIsNotNone(plain.calls[key][3])
        self.assertGreater(min(told.values()), 60)


if __name__ == "__main__":
    unittest.main()

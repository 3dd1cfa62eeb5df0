import copy
import random
import unittest

from plain import made_run
from things import HUGE, KEYS, NO_KEYS, ODD_THINGS, SETTING, same

from twicecalls.errors import CallError, LostError, NoKey, NoPaper
from twicecalls.fair import fair_run
from twicecalls.runs import run
from twicecalls.states import begun
from twicecalls.waychecker import lets_way

KEY = (0, 0, 0)
WAY = (("go", 0), ("get", 0, 0), ("get", 0, 0))
BEGUN = begun(SETTING)


class Ways(unittest.TestCase):
    def refused(self, word, at, thing, key=KEY, state=BEGUN):
        with self.assertRaises(NoPaper) as caught:
            lets_way(SETTING, state, key, thing)
        self.assertIsInstance(caught.exception, CallError)
        self.assertTrue(same((caught.exception.word, caught.exception.at), (word, at)), vars(caught.exception))

    def no_key(self, key, thing, state=BEGUN):
        with self.assertRaises(NoKey) as caught:
            lets_way(SETTING, state, key, thing)
        self.assertIsInstance(caught.exception, LostError)
        self.assertIs(caught.exception.key, key)

    def let_by(self, thing, key=KEY, state=BEGUN):
        before = copy.deepcopy((SETTING, state, key, thing))
        self.assertTrue(same(lets_way(SETTING, state, key, thing), len(thing)))
        self.assertTrue(same((SETTING, state, key, thing), before))


class TestLetBy(Ways):
    def test_of_some_steps(self):
        self.let_by(WAY)
        self.let_by((("tick",), *WAY, ("go", 0), ("tear", 1), ("fall",)))
        self.let_by((("go", 2), ("get", 0, 0), ("get", 0, 0)), (2, 0, 0))
        self.let_by((("go", 1), ("go", 0), ("double", 0, 0), ("lose", 0, 0), *WAY[1:]))

    def test_of_none(self):
        state, _ = run(SETTING, WAY)
        self.let_by((), KEY, state)
        self.let_by((("tick",),), KEY, state)
        self.refused("answer", -1, (), (0, 0, 1), state)
        self.refused("answer", -1, ())

    def test_from_a_later_state(self):
        for k in range(4):
            self.let_by(WAY[k:], KEY, run(SETTING, WAY[:k])[0])

    def test_of_however_many(self):
        self.let_by((("tick",),) * 3000 + WAY)

    def test_by_names(self):
        self.assertTrue(same(lets_way(thing=WAY, key=KEY, state=BEGUN, setting=SETTING), 3))


class TestRefused(Ways):
    def test_shape(self):
        for thing in (list(WAY), "tick", "", None, True, False, 0, 3, HUGE, -1, [], [("tick",)]):
            self.refused("shape", -1, thing)
        for thing in ODD_THINGS:
            if not isinstance(thing, tuple):
                self.refused("shape", -1, thing)
                self.refused("shape", -1, thing, KEY, run(SETTING, WAY)[0])

    def test_step(self):
        for step in (["tick"], ("go", 3), ("go", True), ("get", 1, 0), ("get", 0, HUGE), ("get", True, 0), (), None,
                     "tick", ("tick", 0), *ODD_THINGS):
            for k in range(4):
                self.refused("step", k, (*WAY[:k], step, *WAY[k:]))
            self.refused("step", 1, (("tick",), step, step, None))
        for thing in ODD_THINGS:
            if isinstance(thing, tuple) and thing != ():
                self.refused("step", 0, thing)

    def test_step_that_can_be_later(self):
        self.refused("step", 0, (WAY[1], WAY[0], *WAY[1:]))
        self.refused("step", 3, (*WAY, ("get", 0, 0)))
        self.refused("step", 2, (WAY[0], ("tear", 0), *WAY[1:]))

    def test_answer(self):
        for k in range(3):
            self.refused("answer", -1, WAY[:k])
        self.refused("answer", -1, WAY, (0, 0, 1))
        self.refused("answer", -1, (WAY[0], WAY[1], ("lose", 0, 0), ("tick",)))

    def test_the_first_told_goes(self):
        # What is behind a STEP that can't be isn't asked; nor is the ANSWER.
        self.refused("step", 1, (("tick",), None, *WAY))
        self.refused("step", 3, (*WAY, None))

    def test_no_key_ahead_of_all(self):
        for key in (*NO_KEYS, *ODD_THINGS):
            for thing in (WAY, (), [], None, True, (None,), (("get", 0, 5),), list(WAY)):
                self.no_key(key, thing)
        self.no_key((True, 0, 0), WAY)
        self.no_key([0, 0, 0], WAY)


class TestMany(Ways):
    def test_against_a_plain_one(self):
        chance, seen = random.Random(61), {}
        for _ in range(150):
            plain = made_run(chance, chance.randrange(1, 70), 0.2)
            k = chance.randrange(len(plain.steps))
            state, _ = run(plain.setting, tuple(plain.steps[:k]))
            way = tuple(plain.steps[k:])
            for key in plain.keys():
                has = plain.calls.get(key, [None])[-1] is not None
                seen[has] = seen.get(has, 0) + 1
                if has:
                    self.assertTrue(same(lets_way(plain.setting, state, key, way), len(way)))
                else:
                    with self.assertRaises(NoPaper) as caught:
                        lets_way(plain.setting, state, key, way)
                    self.assertEqual((caught.exception.word, caught.exception.at), ("answer", -1))
        self.assertGreater(min(seen.values()), 100)

    def test_fair_runs_are_ways(self):
        # [67]: STEPS of FAIR RUNS are handed in again.
        _, _, steps, _ = fair_run(SETTING, BEGUN)
        for key in KEYS:
            self.let_by(steps, key)


if __name__ == "__main__":
    unittest.main()

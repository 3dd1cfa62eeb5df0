import copy
import random
import unittest

from plain import PlainRun, made_run, many_runs
from things import HUGE, ODD_THINGS, SETTING, same

from twicecalls.errors import LostError, NoStep
from twicecalls.runs import fair_round, run
from twicecalls.settings import is_step
from twicecalls.states import begun

TICK = ("tick",)
GROUP = (("till", 5, 4),) * 2
STEPS = (("go", 0), ("get", 0, 0), TICK, ("get", 0, 0), ("go", 0), ("go", 2), ("lose", 1, 0), ("fall",))


class Runs(unittest.TestCase):
    def refused(self, step, *handed, **named):
        with self.assertRaises(NoStep) as caught:
            run(*handed, **named)
        self.assertIsInstance(caught.exception, LostError)
        self.assertIs(caught.exception.step, step)


class TestRun(Runs):
    def test_none(self):
        for handed in ((SETTING, ()), (SETTING, (), None), (SETTING, (), begun(SETTING)), (SETTING, (), None, 0),
                       (SETTING, (), None, 7), (SETTING, STEPS, None, 0)):
            self.assertTrue(same(run(*handed), (begun(SETTING), ())))

    def test_events(self):
        plain = PlainRun(SETTING)
        for step in STEPS:
            plain.step(step)
        before = copy.deepcopy((SETTING, STEPS))
        told = run(SETTING, STEPS)
        self.assertTrue(same(told, (plain.state(), tuple(plain.events))))
        self.assertTrue(same(told[1], (
            ("first", (0, 0, 0), 0), ("asked", (0, 0, 0), ((0, 0, 0),)), ("clock", 1), ("told", (0, 0, 0), True),
            ("first", (0, 0, 1), 1), ("first", (2, 0, 0), 0), ("lost", ("ask", (0, 0, 1), "till", 1, 1, 1)),
            ("fallen", 0))))
        self.assertTrue(same((SETTING, STEPS), before))

    def test_most(self):
        for most in range(len(STEPS) + 3):
            self.assertTrue(same(run(SETTING, STEPS, None, most), run(SETTING, STEPS[:most])))
        self.assertTrue(same(run(SETTING, STEPS, None, HUGE), run(SETTING, STEPS)))
        self.assertTrue(same(run(SETTING, STEPS, None, None), run(SETTING, STEPS)))

    def test_four_hundred_where_most_is_left_out(self):
        for many in (399, 400, 401, 1000):
            for handed in ((), (None,), (begun(SETTING),)):
                state, events = run(SETTING, (TICK,) * many, *handed)
                self.assertEqual((state[0], len(events)), (min(many, 400),) * 2)
            self.assertEqual(run(SETTING, (TICK,) * many, None, None)[0][0], min(many, 400))
            self.assertEqual(run(SETTING, (TICK,) * many, None, 5000)[0][0], many)

    def test_from_a_state(self):
        state, _ = run(SETTING, STEPS[:5])
        self.assertTrue(same(run(SETTING, STEPS[5:], state)[0], run(SETTING, STEPS)[0]))
        self.assertTrue(same(run(SETTING, STEPS, None), run(SETTING, STEPS, begun(SETTING))))
        self.assertTrue(same(run(SETTING, STEPS[5:], state, 1), run(SETTING, STEPS[5:6], state)))

    def test_by_names(self):
        told = run(most=2, state=None, steps=STEPS, setting=SETTING)
        self.assertTrue(same(told, run(SETTING, STEPS[:2])))

    def test_no_step(self):
        for thing in (("go", 3), ("get", 0, 1), ["tick"], ("go", True), ("lose", 1, 0), *ODD_THINGS):
            for k in range(3):
                steps = (*STEPS[:k], thing, *STEPS[k:])
                if k == 2 and thing == ("lose", 1, 0):
                    continue
                self.refused(thing, SETTING, steps)
                self.refused(thing, SETTING, steps, None, k + 1)
                self.assertEqual(len(run(SETTING, steps, None, k)[1]), k)

    def test_the_first_that_cannot_be(self):
        one, other = ["tick"], ["tick"]
        self.refused(one, SETTING, (TICK, one, other, ("go", 9)))
        self.refused(other, SETTING, (TICK, other, one))
        # One that can't be there yet, though a STEP ahead of it would make room.
        step = ("get", 0, 0)
        self.refused(step, SETTING, (TICK, step, ("go", 0), ("get", 0, 0)))
        # Those behind the first four hundred aren't looked at.
        self.assertEqual(len(run(SETTING, (TICK,) * 400 + (one,))[1]), 400)
        self.refused(one, SETTING, (TICK,) * 399 + (one,))

    def test_against_a_plain_one(self):
        chance = random.Random(47)
        for _ in range(100):
            plain = made_run(chance, chance.randrange(120))
            told = run(plain.setting, tuple(plain.steps))
            self.assertTrue(same(told, (plain.state(), tuple(plain.events))))


class TestPutTogether(Runs):
    def test_one_and_then_the_other(self):
        chance = random.Random(48)
        for _ in range(60):
            plain = made_run(chance, 60)
            steps = tuple(plain.steps)
            k = chance.randrange(61)
            state, events = run(plain.setting, steps[:k])
            behind, more = run(plain.setting, steps[k:], state)
            self.assertTrue(same((behind, events + more), run(plain.setting, steps)))

    def test_what_turns_nothing_at_the_house_and_no_book(self):
        chance, seen = random.Random(49), {}
        for plain in many_runs(chance, 60, 90):
            state = plain.state()
            steps = [("go", caller) for caller in range(len(plain.callers))] + [TICK, ("tear", 0), ("tear", 1)]
            steps += [(word, lane, k) for lane in (0, 1) for k in range(len(plain.lanes[lane]))
                      for word in ("lose", "double")]
            steps += [("get", lane, k) for lane in (0, 1) for k, letter in enumerate(plain.lanes[lane])
                      if letter[0] == "tell"]
            for step in steps:
                behind, _ = run(plain.setting, (step,), state)
                self.assertTrue(same(behind[3], state[3]))
                seen[step[0]] = seen.get(step[0], 0) + 1
            behind, _ = run(plain.setting, (("fall",),), state)
            self.assertTrue(same(behind[3][:2], state[3][:2]))
        self.assertEqual(set(seen), {"go", "tick", "tear", "lose", "double", "get"})

    def test_go_with_nothing_due_may_stand_anywhere(self):
        chance, many = random.Random(50), 0
        for _ in range(40):
            plain = made_run(chance, 50)
            steps, k = [], 0
            for step, event in zip(plain.steps, plain.events):
                if event != ("nothing",):
                    steps.append(step)
                else:
                    k += 1
            many += k
            told, events = run(plain.setting, tuple(steps))
            self.assertTrue(same(told, plain.state()))
            self.assertTrue(same(events, tuple(event for event in plain.events if event != ("nothing",))))
        self.assertGreater(many, 100)


class TestFairRound(Runs):
    def test_from_the_beginning(self):
        steps, state = fair_round(SETTING, begun(SETTING))
        self.assertTrue(same(steps, (("go", 0),) * 3 + (("go", 2), TICK)))
        self.assertTrue(same(state, run(SETTING, steps)[0]))
        self.assertEqual((state[0], [len(lane) for lane in state[2]]), (1, [3, 1]))

    def test_letters_that_are_sent_while_letters_are_got(self):
        _, state = fair_round(SETTING, begun(SETTING))
        steps, behind = fair_round(SETTING, state)
        # Of LANE 0 two "asks" of the CALLER 0, one of CALLER 2, then their "tells"; then so of LANE 1; then "go".
        self.assertTrue(same(steps, (("get", 0, 0),) * 6 + (("get", 1, 0),) * 2 + (("go", 0),) * 2 + (TICK,)))
        self.assertTrue(same(behind, run(SETTING, steps, state)[0]))

    def test_several_told_by_one(self):
        state, _ = run(SETTING, (("go", 0), ("go", 0), ("get", 1, 0)))
        steps, _ = fair_round(SETTING, state)
        self.assertEqual(steps[:4], (("get", 0, 0),) * 3 + (("go", 0),))

    def test_nothing_due(self):
        setting = ((((), (1, 1), (1, 1)),), 1, 1)
        for clock in (0, 5):
            state, _ = run(setting, (TICK,) * clock)
            steps, behind = fair_round(setting, state)
            self.assertTrue(same((steps, behind[0]), ((TICK,), clock + 1)))
        state, _ = run(SETTING, (("go", 0), ("go", 0), ("go", 0), ("go", 2)))
        self.assertEqual(fair_round(SETTING, run(SETTING, (("tear", 0), ("tear", 1)), state)[0])[0], (TICK,))

    def test_letters_on_both_lanes_and_callers_rising(self):
        caller = (((("till", 1, 9),) * 2,), (1, 1), (1, 1))
        setting = ((caller, caller, caller), 1, 1)
        steps, state = fair_round(setting, begun(setting))
        self.assertEqual(steps, (("go", 0), ("go", 1), ("go", 2), TICK))
        steps, state = fair_round(setting, state)
        self.assertEqual(steps, (("get", 0, 0),) * 6 + (("go", 0), ("go", 1), ("go", 2), TICK))
        steps, state = fair_round(setting, state)
        self.assertEqual(steps, (("get", 1, 0),) * 6 + (TICK,))

    def test_further_tries_in_it(self):
        setting = ((((GROUP,), (1, 1), (2, 1)),), 2, 1)
        state, _ = run(setting, (("go", 0), ("go", 0), ("tear", 0), ("tear", 1), TICK))
        self.assertEqual(fair_round(setting, state)[0], (("go", 0), ("go", 0), TICK))

    def test_by_names(self):
        self.assertEqual(fair_round(state=begun(SETTING), setting=SETTING), fair_round(SETTING, begun(SETTING)))

    def test_against_a_plain_one(self):
        chance = random.Random(51)
        for _ in range(80):
            plain = made_run(chance, chance.randrange(60))
            for _ in range(3):
                state, many = plain.state(), len(plain.steps)
                before = copy.deepcopy((plain.setting, state))
                told = fair_round(plain.setting, state)
                self.assertTrue(same((plain.setting, state), before))
                plain.fair_round()
                self.assertTrue(same(told, (tuple(plain.steps[many:]), plain.state())))
                self.assertTrue(same(run(plain.setting, told[0], state, None)[0], told[1]))
                self.assertTrue(all(is_step(step) for step in told[0]))


if __name__ == "__main__":
    unittest.main()

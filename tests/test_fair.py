import copy
import random
import unittest

from plain import PlainRun, made_run, setting_made
from things import SETTING, same

from twicecalls.fair import fair_run, is_stuck
from twicecalls.runs import fair_round, run
from twicecalls.states import all_through, begun

GO, TICK = ("go", 0), ("tick",)
VOID = ((((), ()), (0, 1), (0, 1)),)
# One CALLER with two CALLS, whose purse is never more than told.
POOR, RICH = (1, 2), (3, 1)


def setting_of(most=POOR, rate=(0, 1), group=(("till", 5, 4), ("till", 2, 0)), window=2, patience=2):
    return ((((group,), rate, most),), window, patience)


def behind(setting, *steps):
    return run(setting, steps)[0]


class TestStuck(unittest.TestCase):
    def check(self, told, setting, *steps):
        state = behind(setting, *steps)
        before = copy.deepcopy((setting, state))
        self.assertIs(is_stuck(setting, state), told)
        self.assertTrue(same((setting, state), before))

    def test_by_purses(self):
        lost = (GO, GO, ("tear", 0), ("tear", 1))
        self.check(True, setting_of(), *lost)
        self.check(True, setting_of((99, 100)), *lost)
        self.check(True, setting_of((0, 1)), *lost, *(TICK,) * 50)
        # The purse is spent.
        self.check(False, setting_of((1, 1)), *lost)
        self.check(True, setting_of((1, 1)), *lost, TICK, TICK, GO, ("tear", 1))

    def test_not_by_a_letter_on_its_way(self):
        self.check(False, setting_of(), GO, GO, ("tear", 0))
        self.check(False, setting_of(), GO, GO, ("tear", 1))
        self.check(False, setting_of(), GO, GO, ("get", 0, 0))
        self.check(True, setting_of(), GO, GO, ("tear", 0), ("get", 1, 0))
        # A LETTER that brings nothing is on its way, too.
        steps = (GO, ("get", 0, 0), ("double", 0, 0), ("get", 0, 0), GO, ("tear", 1))
        self.check(False, setting_of(window=1), *steps)
        self.check(True, setting_of(window=1), *steps, ("get", 0, 0))

    def test_not_by_a_first_try(self):
        self.check(False, setting_of())
        self.check(False, setting_of(), GO, ("tear", 0))
        # None within the window.
        self.check(True, setting_of(window=1), GO, ("tear", 0))
        self.check(False, setting_of(window=1), GO, ("get", 0, 0), ("get", 0, 0))

    def test_not_by_a_whole_in_the_purse_though_patience_lasts(self):
        self.check(False, setting_of((1, 1), patience=9), GO, GO, ("tear", 0), ("tear", 1))
        # A whole, and nothing that was tried without ANSWER.
        self.check(False, setting_of(RICH), *(GO, ("get", 0, 0), ("get", 0, 0)))

    def test_a_whole_of_another_caller(self):
        poor, rich = setting_of()[0][0], setting_of(RICH)[0][0]
        setting = ((rich, poor), 1, 1)
        steps = (GO, ("get", 0, 0), ("get", 0, 0), GO, ("get", 1, 0), ("get", 1, 0))
        self.check(False, setting, *steps)
        # The rich one is through, the poor one has lost its LETTER.
        self.check(True, setting, *steps, ("go", 1), ("tear", 0))
        self.check(False, setting, ("go", 1), ("tear", 0))
        self.check(False, ((rich, poor), 2, 1), GO, GO, ("tear", 0), ("tear", 1), ("go", 1), ("go", 1), ("tear", 0),
                   ("tear", 1))

    def test_all_through(self):
        self.check(False, (VOID, 1, 1))
        self.check(False, (VOID, 1, 1), TICK, TICK)
        self.check(False, setting_of(), GO, GO, *(("get", 0, 0), ("get", 1, 0)) * 2)

    def test_by_names(self):
        self.assertIs(is_stuck(state=begun(SETTING), setting=SETTING), False)

    def test_against_a_plain_one(self):
        chance, told = random.Random(63), {True: 0, False: 0}
        for _ in range(250):
            plain = made_run(chance, chance.randrange(80), chance.choice((0, 0.3, 0.6)))
            for _ in range(4):
                if chance.random() < 0.8:
                    plain.step(("tear", 0))
                    plain.step(("tear", 1))
                state = plain.state()
                self.assertIs(is_stuck(plain.setting, state), plain.is_stuck())
                told[plain.is_stuck()] += 1
                plain.step(plain.any_step(chance, 0))
        self.assertGreater(min(told.values()), 50)


class TestFairRun(unittest.TestCase):
    def check(self, setting, state, word=None, rounds=None):
        before = copy.deepcopy((setting, state))
        told = fair_run(setting, state)
        self.assertTrue(same((setting, state), before))
        self.assertTrue(isinstance(told, tuple) and len(told) == 4 and isinstance(told[2], tuple))
        if word is not None:
            self.assertTrue(same(told[:2], (word, rounds)), told[:2])
        self.assertTrue(same(told[3], run(setting, told[2], state, None if len(told[2]) < 400 else 10 ** 6)[0]))
        self.check_rounds(setting, state, told)
        self.check_bounds(setting, state, told)
        return told

    def check_rounds(self, setting, state, told):
        steps, rounds = (), 0
        while not all_through(setting, state) and not is_stuck(setting, state):
            more, state = fair_round(setting, state)
            steps, rounds = steps + more, rounds + 1
        self.assertTrue(same(told[1:], (rounds, steps, state)))
        self.assertEqual(told[0], "through" if all_through(setting, state) else "stuck")

    def check_bounds(self, setting, state, told):
        # [65]: rounds are no more than the "asks" sent in it and one, times patience and one.
        events = run(setting, told[2], state, len(told[2]))[1]
        sent = sum(event[0] in ("first", "further") for event in events)
        self.assertLessEqual(told[1], (sent + 1) * (setting[2] + 1))

    def test_none_where_all_are_through(self):
        setting = (VOID, 1, 1)
        self.assertTrue(same(fair_run(setting, begun(setting)), ("through", 0, (), begun(setting))))
        # A LETTER that is on its way still stays there.
        state = behind(setting_of(), GO, GO, ("double", 0, 0), *(("get", 0, 0), ("get", 1, 0)) * 2, ("get", 0, 0))
        self.assertNotEqual(state[2], ((), ()))
        self.assertTrue(same(fair_run(setting_of(), state), ("through", 0, (), state)))

    def test_none_where_it_is_stuck(self):
        state = behind(setting_of(), GO, GO, ("tear", 0), ("tear", 1))
        self.assertTrue(same(fair_run(setting_of(), state), ("stuck", 0, (), state)))

    def test_from_the_beginning(self):
        told = self.check(setting_of(), begun(setting_of()), "through", 2)
        self.assertEqual(told[2], (GO, GO, TICK, ("get", 0, 0), ("get", 0, 0), ("get", 1, 0), ("get", 1, 0), TICK))
        # Late is the one of span 0.
        self.assertEqual([answer for _, answer in told[3][3][1]], [("done", 5), ("late",)])
        self.check(setting_of(window=1), begun(setting_of()), "through", 3)
        self.check(SETTING, begun(SETTING), "through", 3)

    def test_through_from_a_later_state_by_a_further_try(self):
        setting = setting_of((1, 1), patience=3)
        state = behind(setting, GO, GO, ("tear", 0))
        # The "ask" of n 1 waits; by patience that of n 0 is sent again, and decides both.
        told = self.check(setting, state, "through", 5)
        self.assertEqual(told[2].count(GO), 1)
        self.assertEqual(told[3][1][0][0], (0, 1))

    def test_stuck_from_a_later_state(self):
        setting = setting_of((1, 1))
        state = behind(setting, GO, GO, ("tear", 0), ("tear", 1))
        # The purse is enough for one of both.
        told = self.check(setting, state, "stuck", 4)
        self.assertEqual([answer for _, answer in told[3][3][1]], [("done", 5)])
        self.assertIs(is_stuck(setting, told[3]), True)
        # What is on its way comes ahead of that.
        setting = setting_of()
        state = behind(setting, GO, GO, ("get", 0, 0), ("tear", 1))
        self.check(setting, state, "stuck", 1)

    def test_by_names(self):
        self.assertEqual(fair_run(state=begun(SETTING), setting=SETTING), fair_run(SETTING, begun(SETTING)))

    def test_through_by_first_tries_alone_whatever_purses_have(self):
        # [66]
        chance, late = random.Random(66), set()
        for _ in range(120):
            setting = setting_made(chance)
            told = self.check(setting, begun(setting))
            self.assertEqual(told[0], "through")
            events = run(setting, told[2], None, len(told[2]))[1]
            self.assertNotIn("further", [event[0] for event in events])
            plain = PlainRun(setting)
            for key, answer in told[3][3][1]:
                span = setting[0][key[0]][0][key[1]][key[2]][2]
                self.assertEqual(answer == ("late",), span == 0)
                late.add(span == 0)
            self.assertEqual(len(told[3][3][1]), len(plain.keys()))
            # All LETTERS of a ROUND are answered in the next one.
            state = begun(setting)
            for _ in range(told[1]):
                steps, state = fair_round(setting, state)
                self.assertTrue(all(letter[0] == "ask" for lane in state[2] for letter in lane))
        self.assertEqual(late, {True, False})

    def test_against_a_plain_one(self):
        chance, words = random.Random(64), {}
        for _ in range(150):
            plain = made_run(chance, chance.randrange(90), chance.choice((0.1, 0.3, 0.6)))
            state, many = plain.state(), len(plain.steps)
            told = self.check(plain.setting, state)
            self.assertEqual(told[:2], plain.fair_run())
            self.assertTrue(same(told[2:], (tuple(plain.steps[many:]), plain.state())))
            words[told[0]] = words.get(told[0], 0) + 1
        self.assertGreater(words["through"], 20)
        self.assertGreater(words["stuck"], 20)

    def test_behind_stuck_nothing_is_sent_decided_or_brought(self):
        chance, many = random.Random(65), 0
        for _ in range(150):
            plain = made_run(chance, chance.randrange(60), 0.6)
            word, _, _, state = fair_run(plain.setting, plain.state())
            if word == "stuck":
                many += 1
                steps = tuple(chance.choice([("go", chance.randrange(len(plain.callers))), TICK, ("fall",),
                                             ("tear", 0)]) for _ in range(80))
                behind_it, events = run(plain.setting, steps, state)
                self.assertEqual({event[0] for event in events} - {"clock", "torn", "fallen"}, {"nothing"})
                self.assertTrue(same((behind_it[1], behind_it[2]), (state[1], ((), ()))))
                self.assertTrue(same(behind_it[3][:2], state[3][:2]))
        self.assertGreater(many, 20)


if __name__ == "__main__":
    unittest.main()

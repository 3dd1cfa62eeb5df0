import copy
import random
import unittest

from plain import PlainRun, made_run, setting_made
from things import HUGE, KEYS, NO_KEYS, ODD_THINGS, SETTING, same

from twicecalls.errors import LostError, NoBack, NoKey, NoStep
from twicecalls.lines import shown_steps
from twicecalls.mill import Mill
from twicecalls.outside import history_of
from twicecalls.purses import purse_left
from twicecalls.readings import read_steps
from twicecalls.runs import run
from twicecalls.states import begun

TICK = ("tick",)
STEPS = (("go", 0), ("go", 0), ("go", 2), TICK, ("get", 0, 0), ("get", 1, 0), ("get", 0, 1), TICK)


def mill_of(*steps, setting=SETTING):
    mill = Mill(setting)
    for step in steps:
        mill.do(step)
    return mill


def all_of(mill):
    """All that a mill tells of itself."""
    keys = KEYS if mill.setting_now() == SETTING else ()
    return (mill.setting_now(), mill.state_now(), mill.steps_now(), len(mill), str(mill), mill.open_keys(),
            mill.book_keys(), mill.history(), mill.calm_steps(), tuple(mill.known(key) for key in keys),
            tuple(mill.purse_of(caller) for caller in range(len(mill.setting_now()[0]))),
            tuple(mill.then(k) for k in range(len(mill) + 1)))


class Mills(unittest.TestCase):
    def refused(self, kind, thing, deed, *handed):
        with self.assertRaises(kind) as caught:
            deed(*handed)
        self.assertIsInstance(caught.exception, LostError)
        self.assertIs(list(vars(caught.exception).values())[0], thing)


class TestDo(Mills):
    def test_at_first(self):
        mill = Mill(SETTING)
        self.assertTrue(same(mill.setting_now(), SETTING))
        self.assertTrue(same(mill.state_now(), begun(SETTING)))
        self.assertTrue(same(mill.steps_now(), ()))
        self.assertTrue(same(Mill(setting=SETTING).state_now(), begun(SETTING)))

    def test_events(self):
        mill, plain = Mill(SETTING), PlainRun(SETTING)
        for k, step in enumerate(STEPS):
            self.assertTrue(same(mill.do(step), plain.step(step)))
            self.assertTrue(same(mill.state_now(), plain.state()))
            self.assertTrue(same(mill.steps_now(), STEPS[:k + 1]))
        self.assertTrue(same(mill.do(step=TICK), ("clock", 3)))

    def test_a_step_that_does_nothing_is_one_too(self):
        mill = mill_of(("go", 1), ("fall",), ("tear", 0))
        self.assertTrue(same(mill.steps_now(), (("go", 1), ("fall",), ("tear", 0))))
        self.assertTrue(same(mill.state_now(), begun(SETTING)))

    def test_no_step(self):
        mill = mill_of(*STEPS)
        before = copy.deepcopy(all_of(mill))
        for thing in (("go", 3), ["tick"], ("get", 1, 1), ("lose", 1, True), ("tick", 0), *ODD_THINGS):
            self.refused(NoStep, thing, mill.do, thing)
            self.assertTrue(same(mill.steps_now(), STEPS))
        self.assertTrue(same(all_of(mill), before))


class TestRun(Mills):
    def test_events_and_steps(self):
        for many in range(len(STEPS) + 1):
            mill = mill_of(*STEPS[:many])
            told = mill.run(STEPS[many:])
            self.assertTrue(same(told, run(SETTING, STEPS)[1][many:]))
            self.assertTrue(same(mill.steps_now(), STEPS))
            self.assertTrue(same(mill.state_now(), run(SETTING, STEPS)[0]))

    def test_most(self):
        for most in (*range(len(STEPS) + 2), HUGE):
            mill = Mill(SETTING)
            self.assertTrue(same(mill.run(STEPS, most), run(SETTING, STEPS[:most])[1]))
            self.assertTrue(same(mill.steps_now(), STEPS[:most]))
        for handed in (((TICK,) * 1000,), ((TICK,) * 1000, None)):
            mill = Mill(SETTING)
            self.assertEqual((len(mill.run(*handed)), len(mill)), (400, 400))
        for many in (399, 400, 401):
            self.assertEqual(len(Mill(SETTING).run((TICK,) * many)), min(many, 400))
        self.assertEqual(len(Mill(SETTING).run(most=700, steps=(TICK,) * 1000)), 700)
        self.assertTrue(same(Mill(SETTING).run(()), ()))

    def test_those_ahead_of_a_refused_one_stand(self):
        for thing in (("go", 3), ["tick"], ("get", 1, 5), *ODD_THINGS):
            for k in range(len(STEPS) + 1):
                mill = Mill(SETTING)
                self.refused(NoStep, thing, mill.run, (*STEPS[:k], thing, *STEPS[k:]))
                self.assertTrue(same(mill.steps_now(), STEPS[:k]))
                self.assertTrue(same(mill.state_now(), run(SETTING, STEPS[:k])[0]))

    def test_those_beyond_most_are_not_looked_at(self):
        mill, wrong = Mill(SETTING), ["tick"]
        self.assertEqual(len(mill.run((TICK, TICK, wrong), 2)), 2)
        self.refused(NoStep, wrong, mill.run, (TICK, TICK, wrong), 3)
        self.assertEqual(len(mill), 4)
        self.assertEqual(len(mill.run((TICK,) * 400 + (wrong,))), 400)
        self.assertTrue(same(mill.run((wrong,), 0), ()))


class TestBack(Mills):
    def test_the_last_one_first(self):
        for times in range(1, len(STEPS) + 1):
            mill = mill_of(*STEPS)
            self.assertTrue(same(mill.back(times), STEPS[::-1][:times]))
            left = STEPS[:len(STEPS) - times]
            self.assertTrue(same(all_of(mill), all_of(mill_of(*left))))
            self.assertTrue(same(mill.state_now(), run(SETTING, left)[0]))

    def test_one_where_it_is_not_handed_in(self):
        mill = mill_of(*STEPS)
        for k in range(len(STEPS)):
            self.assertTrue(same(mill.back(), (STEPS[-1 - k],)))
        self.refused(NoBack, 1, mill.back)
        self.assertTrue(same(mill_of(TICK).back(times=1), (TICK,)))

    def test_and_on_from_there(self):
        mill = mill_of(*STEPS)
        mill.back(5)
        mill.run(STEPS[3:])
        self.assertTrue(same(all_of(mill), all_of(mill_of(*STEPS))))

    def test_refused(self):
        mill = mill_of(*STEPS)
        for times in (0, 9, 10, HUGE, -1, True, False, None, "1", (1,), [1], *ODD_THINGS):
            if not same(times, 1):
                self.refused(NoBack, times, mill.back, times)
                self.assertTrue(same(mill.steps_now(), STEPS))
        for times in (0, 1, None, True):
            self.refused(NoBack, times, Mill(SETTING).back, times)


class TestThen(Mills):
    def test_behind_the_first_steps(self):
        mill = mill_of(*STEPS)
        for k in range(len(STEPS) + 1):
            self.assertTrue(same(mill.then(k), run(SETTING, STEPS[:k])[0]))
        self.assertTrue(same(mill.then(0), begun(SETTING)))
        self.assertTrue(same(mill.then(k=8), mill.state_now()))
        self.assertTrue(same(mill.steps_now(), STEPS))
        self.assertTrue(same(Mill(SETTING).then(0), begun(SETTING)))

    def test_refused(self):
        mill = mill_of(*STEPS)
        for k in (9, HUGE, -1, True, False, None, "0", (0,), [], *ODD_THINGS):
            if not (same(k, 0) or same(k, 1)):
                self.refused(NoBack, k, mill.then, k)
        mill.back()
        self.refused(NoBack, 8, mill.then, 8)
        self.refused(NoBack, 1, Mill(SETTING).then, 1)


class TestWhatIsKnown(Mills):
    def test_known_of_each_way(self):
        mill = Mill(SETTING)
        key = (0, 0, 0)
        for step, told in ((TICK, ("untried", None)), (("go", 0), ("open", None)),
                           (("get", 0, 0), ("open", ("done", 5))), (("get", 0, 0), ("heard", ("done", 5)))):
            mill.do(step)
            self.assertTrue(same(mill.known(key), told))
            self.assertTrue(same(mill.known((0, 0, 1)), ("untried", None)))
        mill.run((("go", 0), TICK, TICK, ("get", 1, 0)))
        self.assertTrue(same(mill.known(key=(0, 0, 1)), ("open", ("late",))))
        mill.do(("get", 1, 0))
        self.assertTrue(same(mill.known((0, 0, 1)), ("heard", ("late",))))
        mill.back()
        self.assertTrue(same(mill.known((0, 0, 1)), ("open", ("late",))))
        mill.back(len(mill))
        self.assertTrue(same(mill.known(key), ("untried", None)))

    def test_no_key(self):
        for key in (*NO_KEYS, *ODD_THINGS):
            self.refused(NoKey, key, mill_of(*STEPS).known, key)

    def test_open_keys_and_book_keys(self):
        mill = Mill(SETTING)
        self.assertTrue(same((mill.open_keys(), mill.book_keys()), ((), ())))
        mill.run((("go", 2), ("go", 0), ("go", 0)))
        self.assertTrue(same((mill.open_keys(), mill.book_keys()), (((0, 0, 0), (0, 0, 1), (2, 0, 0)), ())))
        mill.run((("get", 0, 0), ("get", 1, 0), ("get", 0, 0)))
        self.assertTrue(same(mill.open_keys(), ((0, 0, 0), (0, 0, 1), (2, 0, 0))))
        # As they were decided.
        self.assertTrue(same(mill.book_keys(), ((2, 0, 0), (0, 0, 0), (0, 0, 1))))
        mill.do(("get", 0, 1))
        self.assertTrue(same(mill.open_keys(), ((0, 0, 1), (2, 0, 0))))

    def test_history(self):
        mill = mill_of(*STEPS)
        self.assertTrue(same(mill.history(), (((0, 0, 0), "till", 5, 0, 1, ("done", 5)),
                                              ((0, 0, 1), "till", 1, 0, 2, ("late",)))))
        self.assertTrue(same(mill.history(), history_of(SETTING, STEPS)))
        mill.back(3)
        self.assertTrue(same(mill.history(), history_of(SETTING, STEPS[:5])))
        self.assertTrue(same(Mill(SETTING).history(), ()))
        mill.run((TICK,) * 500, 500)
        self.assertTrue(same(mill.history()[0][4], 501))

    def test_purse_of(self):
        mill = mill_of(("go", 0))
        self.assertTrue(same(mill.purse_of(0), ((2, 1), 0)))
        self.assertTrue(same(mill.purse_of(1), ((1, 3), 0)))
        self.assertTrue(same(mill.purse_of(caller=2), ((0, 1), 0)))
        mill.run((("go", 0), ("go", 0), ("tear", 0), ("tear", 1), *(TICK,) * 3, ("go", 0)))
        self.assertTrue(same(mill.purse_of(0), ((1, 1), 1)))
        mill.do(("go", 0))
        self.assertTrue(same(mill.purse_of(0), ((0, 1), 2)))
        mill.back()
        self.assertTrue(same(mill.purse_of(0), ((1, 1), 1)))
        mill.back(5)
        self.assertTrue(same(mill.purse_of(0), ((2, 1), 0)))

    def test_purse_of_no_such_caller(self):
        for caller in (3, HUGE, -1, True, None):
            with self.assertRaises(NoStep) as caught:
                Mill(SETTING).purse_of(caller)
            self.assertTrue(same(caught.exception.step, ("go", caller)))

    def test_against_a_plain_one(self):
        chance = random.Random(78)
        for _ in range(60):
            plain = made_run(chance, chance.randrange(100))
            mill = Mill(plain.setting)
            mill.run(tuple(plain.steps))
            for key in plain.keys():
                had = plain.calls.get(key, [None])[-1]
                way = "untried" if key not in plain.calls else "open" if had is None else "heard"
                self.assertTrue(same(mill.known(key), (way, plain.house.book.get(key))))
            self.assertTrue(same(mill.open_keys(), tuple(key for key in plain.keys()
                                                         if plain.calls.get(key, [0])[-1] is None)))
            self.assertTrue(same(mill.book_keys(), tuple(plain.house.book)))
            for caller in range(len(plain.callers)):
                tries = [event for event in plain.events if event[0] in ("first", "further")]
                rows = [word for word, key, _ in tries if key[0] == caller]
                takings = tuple("first" if word == "first" else "more" for word in rows)
                purse = purse_left(plain.callers[caller][1:], takings)
                self.assertTrue(same(mill.purse_of(caller), (purse, rows.count("further"))))


class TestCalmSteps(Mills):
    def test_none(self):
        self.assertTrue(same(Mill(SETTING).calm_steps(), ()))
        self.assertTrue(same(mill_of(("go", 0), ("tear", 0)).calm_steps(), ()))

    def test_letters_on_both_lanes(self):
        mill = mill_of(*STEPS[:3])
        before = copy.deepcopy(all_of(mill))
        told = mill.calm_steps()
        self.assertTrue(same(told, (("get", 0, 0),) * 4 + (("get", 1, 0),) * 2))
        self.assertTrue(same(all_of(mill), before))
        mill.run(told)
        self.assertEqual(mill.state_now()[2], ((), ()))
        self.assertEqual(mill.state_now()[0], 0)

    def test_most(self):
        mill = mill_of(*STEPS[:3])
        whole = mill.calm_steps()
        for most in (*range(8), HUGE):
            self.assertTrue(same(mill.calm_steps(most), whole[:most]))
        self.assertTrue(same(mill.calm_steps(most=2), whole[:2]))
        mill.run((("double", 0, 0),) * 390)
        self.assertEqual(len(mill.calm_steps()), 200)
        self.assertEqual(len(mill.calm_steps(None)), 200)
        self.assertEqual(len(mill.calm_steps(None)), len(mill.calm_steps(200)))
        self.assertGreater(len(mill.calm_steps(1000)), 500)

    def test_against_a_plain_one(self):
        chance = random.Random(79)
        for _ in range(60):
            plain = made_run(chance, chance.randrange(80))
            mill = mill_of(*plain.steps, setting=plain.setting)
            k = len(plain.steps)
            while plain.calm_step():
                plain.step(plain.calm_step())
            self.assertTrue(same(mill.calm_steps(), tuple(plain.steps[k:])))
            self.assertEqual(len(mill), k)


class TestLenStrAndLike(Mills):
    def test_of_none_and_of_many(self):
        mill = Mill(SETTING)
        self.assertTrue(same((len(mill), str(mill)), (0, "")))
        mill.run(STEPS)
        self.assertTrue(same((len(mill), str(mill)), (8, "go 0\ngo 0\ngo 2\ntick\nget 0 0\nget 1 0\nget 0 1\ntick")))
        self.assertEqual(str(mill), shown_steps(mill.steps_now()))
        self.assertTrue(same(read_steps(str(mill)), STEPS))
        mill.back(7)
        self.assertTrue(same((len(mill), str(mill)), (1, "go 0")))

    def test_like_ones(self):
        self.assertTrue(Mill(SETTING) == Mill(copy.deepcopy(SETTING)))
        self.assertFalse(Mill(SETTING) != Mill(SETTING))
        mill = mill_of(*STEPS)
        self.assertEqual(mill, mill_of(*STEPS))
        self.assertEqual(mill, mill)
        # Whatever its STEPS.
        self.assertEqual(mill, mill_of(("fall",), *STEPS, ("go", 1), ("double", 0, 0), ("lose", 0, 1)))
        self.assertEqual(mill_of(("tear", 0)), Mill(SETTING))

    def test_unlike_ones(self):
        mill = mill_of(*STEPS)
        self.assertNotEqual(mill, mill_of(*STEPS[:-1]))
        self.assertNotEqual(mill, mill_of(*STEPS, TICK))
        self.assertNotEqual(Mill(SETTING), Mill((SETTING[0], 2, 4)))
        self.assertNotEqual(Mill(SETTING), Mill((SETTING[0], 3, 3)))
        # Like STATES of unlike SETTINGS.
        one, other = (((("till", 5, 20),),), (1, 1), (1, 1)), (((("till", 6, 20),),), (1, 1), (1, 1))
        self.assertEqual(begun(((one,), 1, 1)), begun(((other,), 1, 1)))
        self.assertNotEqual(Mill(((one,), 1, 1)), Mill(((other,), 1, 1)))

    def test_things_that_are_no_mill(self):
        mill = Mill(SETTING)
        for thing in (*ODD_THINGS, SETTING, begun(SETTING), str(mill), (SETTING, begun(SETTING)), Mill):
            self.assertIs(mill == thing, False)
            self.assertIs(mill != thing, True)
            self.assertIs(thing == mill, False)


class TestApart(Mills):
    def test_mills_know_nothing_of_one_another(self):
        one, other = Mill(SETTING), Mill(SETTING)
        one.run(STEPS)
        self.assertTrue(same(all_of(other), all_of(Mill(SETTING))))
        other.run((TICK, ("go", 2)))
        self.assertTrue(same(all_of(one), all_of(mill_of(*STEPS))))
        one.back(8)
        self.assertTrue(same(other.steps_now(), (TICK, ("go", 2))))

    def test_what_was_handed_in_may_be_changed(self):
        mill, wrong = Mill(SETTING), ["tick"]
        self.refused(NoStep, wrong, mill.run, (TICK, wrong))
        wrong[0] = "fall"
        rows = [TICK, ("go", 0)]
        mill.run(rows)
        rows.append(("go", 2))
        rows[0] = ("fall",)
        self.assertTrue(same(mill.steps_now(), (TICK, TICK, ("go", 0))))

    def test_what_is_told_stays_as_it_was(self):
        mill = mill_of(*STEPS)
        told = all_of(mill)
        before = copy.deepcopy(told)
        mill.run((TICK, ("go", 0), ("fall",)))
        mill.back(6)
        mill.run((("go", 2), TICK))
        self.assertTrue(same(told, before))

    def test_asking_changes_nothing(self):
        chance = random.Random(80)
        for _ in range(30):
            setting = setting_made(chance)
            asked, let_be = Mill(setting), Mill(setting)
            plain = PlainRun(setting)
            for _ in range(40):
                step = plain.any_step(chance)
                plain.step(step)
                self.assertTrue(same(asked.do(step), let_be.do(step)))
                all_of(asked)
                self.assertTrue(all(len(asked.known(key)) == 2 for key in plain.keys()))
                for deed, thing in ((asked.do, ("go", 9)), (asked.back, 0), (asked.then, -1), (asked.known, (9, 9, 9))):
                    self.assertRaises(LostError, deed, thing)
            self.assertTrue(same(all_of(asked), all_of(let_be)))
            self.assertEqual(asked, let_be)


if __name__ == "__main__":
    unittest.main()

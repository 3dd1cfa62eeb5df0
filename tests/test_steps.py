import copy
import random
import unittest

from plain import PlainRun, many_runs
from things import HUGE, ODD_THINGS, SETTING, same

from twicecalls.errors import LostError, NoStep
from twicecalls.states import begun
from twicecalls.steps import stepped

DONE, LATE = ("done", 5), ("late",)
# One CALLER with one GROUP; window 2, patience 3.
GROUP = (("till", 5, 4), ("safe", 2, 0), ("till", 1, 9), ("till", 3, 9))


def setting_of(rate=(1, 2), most=(2, 1), group=GROUP, window=2, patience=3):
    return ((((group,), rate, most),), window, patience)


def state_of(*calls, clock=0, purse=(2, 1), tries=None, heard=0, lanes=((), ()), house=((), (), ())):
    tries = len(calls) if tries is None else tries
    return (clock, ((purse, tries, ((heard, calls),)),), lanes, house)


def ask(n, last, heard=0):
    cell, number, _ = GROUP[n]
    return ("ask", (0, 0, n), cell, number, last, heard)


def tell(n, answer):
    return ("tell", (0, 0, n), answer)


def house_of(cells=(), answers=(), floor=0, waiting=()):
    book = tuple(((0, 0, n), answer) for n, answer in enumerate(answers))
    return (cells, book, (((0, 0), len(answers), floor, tuple(answers[floor:]), waiting),))


class Steps(unittest.TestCase):
    def check(self, state, step, behind, event, setting=setting_of()):
        before = copy.deepcopy((setting, state, step))
        told = stepped(setting, state, step)
        self.assertTrue(same(told, (behind, event)), told)
        self.assertTrue(same((setting, state, step), before))

    def refused(self, setting, state, step):
        with self.assertRaises(NoStep) as caught:
            stepped(setting, state, step)
        self.assertIsInstance(caught.exception, LostError)
        self.assertIs(caught.exception.step, step)


class TestFirstTry(Steps):
    def test_sends_an_ask(self):
        self.check(state_of(), ("go", 0), state_of((0, 0, 0, None), lanes=((ask(0, 4),), ())),
                   ("first", (0, 0, 0), 0))
        self.check(state_of(clock=7), ("go", 0),
                   state_of((7, 7, 0, None), clock=7, lanes=((ask(0, 11),), ())), ("first", (0, 0, 0), 0))

    def test_lane_is_tries_modulo_two(self):
        for tries, lane in ((0, 0), (1, 1), (2, 0), (3, 1), (HUGE, 1)):
            lanes = ((ask(0, 4),), ()) if lane == 0 else ((), (ask(0, 4),))
            self.check(state_of(tries=tries), ("go", 0), state_of((0, 0, lane, None), tries=tries + 1, lanes=lanes),
                       ("first", (0, 0, 0), lane))

    def test_comes_behind_the_others_of_its_lane_and_says_what_it_heard(self):
        others = (tell(0, DONE), tell(0, DONE))
        one = (0, 2, 0, DONE)
        self.check(state_of(one, heard=1, tries=3, clock=2, lanes=(others, others)), ("go", 0),
                   state_of(one, (2, 2, 1, None), heard=1, tries=4, clock=2,
                            lanes=(others, (*others, ask(1, 2, 1)))), ("first", (0, 0, 1), 1))

    def test_purse_rises_by_rate_to_most(self):
        for purse, rate, behind in (((0, 1), (1, 2), (1, 2)), ((1, 2), (1, 3), (5, 6)), ((3, 2), (1, 2), (2, 1)),
                                    ((3, 2), (1, 1), (2, 1)), ((2, 1), (1, 2), (2, 1)), ((1, 3), (0, 1), (1, 3)),
                                    ((199, 100), (9, 1000), (1999, 1000)), ((0, 1), (9, 1), (2, 1))):
            self.check(state_of(purse=purse), ("go", 0),
                       state_of((0, 0, 0, None), purse=behind, lanes=((ask(0, 4),), ())), ("first", (0, 0, 0), 0),
                       setting_of(rate))

    def test_nothing_due_turns_nothing(self):
        full = state_of((0, 0, 0, None), (0, 0, 1, None), clock=2, lanes=((ask(0, 4),), (ask(1, 0),)))
        self.check(full, ("go", 0), full, ("nothing",))
        self.check(begun(SETTING), ("go", 1), begun(SETTING), ("nothing",), SETTING)

    def test_others_stay(self):
        behind = list(begun(SETTING))
        behind[1] = (*behind[1][:2], ((0, 1), 1, ((0, ((0, 0, 0, None),)),)))
        behind[2] = ((("ask", (2, 0, 0), "box", 1, 0, 0),), ())
        self.check(begun(SETTING), ("go", 2), tuple(behind), ("first", (2, 0, 0), 0), SETTING)


class TestFurtherTry(Steps):
    def further(self, clock, purse, patience=3, lane=1, behind=(1, 1), last_try=4):
        setting = setting_of(group=GROUP[:1], patience=patience)
        lanes = ((), (ask(0, 5),)) if lane == 0 else ((ask(0, 5),), ())
        self.check(state_of((1, last_try, lane, None), clock=clock, purse=purse, tries=2), ("go", 0),
                   state_of((1, clock, 1 - lane, None), clock=clock, purse=behind, tries=3, lanes=lanes),
                   ("further", (0, 0, 0), 1 - lane), setting)

    def nothing(self, clock, purse, patience=3):
        state = state_of((1, 4, 1, None), clock=clock, purse=purse, tries=2)
        self.check(state, ("go", 0), state, ("nothing",), setting_of(group=GROUP[:1], patience=patience))

    def test_at_just_patience_and_one_tick_less(self):
        self.further(7, (2, 1))
        self.nothing(6, (2, 1))
        self.nothing(4, (2, 1))
        self.further(8, (2, 1))
        self.further(5, (2, 1), patience=1)
        self.nothing(4, (2, 1), patience=1)
        self.nothing(12, (2, 1), patience=9)
        self.further(13, (2, 1), patience=9)

    def test_with_just_a_whole_and_with_less(self):
        self.further(7, (1, 1), behind=(0, 1))
        self.further(7, (3, 2), behind=(1, 2))
        self.nothing(7, (99, 100))
        self.nothing(7, (0, 1))

    def test_on_the_other_lane_than_its_last_try(self):
        self.further(7, (2, 1), lane=0)
        self.further(7, (2, 1), lane=1)

    def test_last_as_at_the_first_try_and_heard_as_it_is_now(self):
        setting = setting_of(window=1)
        self.check(state_of((0, 0, 0, DONE), (1, 1, 1, None), heard=1, clock=30), ("go", 0),
                   state_of((0, 0, 0, DONE), (1, 30, 0, None), heard=1, clock=30, tries=3, purse=(1, 1),
                            lanes=((ask(1, 1, 1),), ())), ("further", (0, 0, 1), 0), setting)

    def test_behind_a_first_try(self):
        self.check(state_of((0, 0, 0, None), clock=9, purse=(3, 2)), ("go", 0),
                   state_of((0, 0, 0, None), (9, 9, 1, None), clock=9, lanes=((), (ask(1, 9),))),
                   ("first", (0, 0, 1), 1))


class TestGetOfAnAsk(Steps):
    def asked(self, clock, letter, house, behind, tells=(), keys=(), setting=setting_of(window=3)):
        calls = ((0, 0, 0, None),) * 4
        other = (ask(3, 9), tell(0, DONE))
        for lane, k in ((0, 0), (0, 2), (1, 1)):
            ahead = (*other[:k], letter, *other[k:])
            lanes = (ahead, other) if lane == 0 else (other, ahead)
            after = (other + tells, other) if lane == 0 else (other, other + tells)
            self.check(state_of(*calls, clock=clock, lanes=lanes, house=house), ("get", lane, k),
                       state_of(*calls, clock=clock, lanes=after, house=behind), ("asked", letter[1], keys), setting)

    def test_decided_in_time_at_just_last_and_late(self):
        void = ((), (), ())
        for clock in (0, 3, 4):
            self.asked(clock, ask(0, 4), void, house_of((("till", 5),), (DONE,)), (tell(0, DONE),), ((0, 0, 0),))
        for clock in (5, 99):
            self.asked(clock, ask(0, 4), void, house_of((), (LATE,)), (tell(0, LATE),), ((0, 0, 0),))

    def test_decided_already(self):
        house = house_of((("till", 5),), (DONE, LATE))
        self.asked(50, ask(0, 4), house, house, (tell(0, DONE),))
        self.asked(0, ask(1, 0), house, house, (tell(1, LATE),))

    def test_forgotten(self):
        house = house_of((("till", 5),), (DONE, LATE), floor=1)
        self.asked(1, ask(0, 4), house, house)
        self.asked(1, ask(0, 4, 2), house, house_of((("till", 5),), (DONE, LATE), floor=2))

    def test_waits_and_waits_twice(self):
        one = house_of(waiting=((2, "till", 1, 9),))
        self.asked(1, ask(2, 9), ((), (), ()), one)
        self.asked(1, ask(2, 9), one, one)
        self.asked(1, ask(1, 0), one, house_of(waiting=((1, "safe", 2, 0), (2, "till", 1, 9))))

    def test_beyond_the_window(self):
        void = ((), (), ())
        self.asked(1, ask(2, 9), void, house_of(), setting=setting_of(window=2))
        self.asked(1, ask(3, 9), void, house_of())
        house = house_of((), (LATE,), floor=1)
        self.asked(1, ask(3, 9), house, house_of((), (LATE,), floor=1, waiting=((3, "till", 3, 9),)))
        # What it heard moves the window ahead of that it is looked at.
        self.asked(1, ask(3, 9, 1), house_of((), (LATE,)),
                   house_of((), (LATE,), floor=1, waiting=((3, "till", 3, 9),)))

    def test_several_that_waited_by_the_clock_as_it_is_then(self):
        house = house_of(waiting=((1, "safe", 2, 0), (2, "till", 1, 9)))
        keys = ((0, 0, 0), (0, 0, 1), (0, 0, 2))
        for clock, answers, cells in (
                (0, (DONE, ("done", 2), ("done", 6)), (("safe", 2), ("till", 6))),
                (4, (DONE, LATE, ("done", 6)), (("till", 6),)),
                (5, (LATE, LATE, ("done", 1)), (("till", 1),)),
                (10, (LATE, LATE, LATE), ())):
            tells = tuple(tell(n, answer) for n, answer in enumerate(answers))
            self.asked(clock, ask(0, 4), house, house_of(cells, answers), tells, keys)

    def test_not_beyond_a_gap(self):
        house = house_of(waiting=((1, "safe", 2, 0), (3, "till", 3, 9)))
        self.asked(0, ask(0, 4), house, house_of((("safe", 2), ("till", 5)), (DONE, ("done", 2)),
                                                 waiting=((3, "till", 3, 9),)),
                   (tell(0, DONE), tell(1, ("done", 2))), ((0, 0, 0), (0, 0, 1)))


class TestGetOfATell(Steps):
    def test_new(self):
        self.check(state_of((0, 0, 0, None), lanes=((tell(0, LATE),), (ask(0, 4),))), ("get", 0, 0),
                   state_of((0, 0, 0, LATE), heard=1, lanes=((), (ask(0, 4),))), ("told", (0, 0, 0), True))

    def test_one_that_comes_twice(self):
        had = state_of((0, 0, 0, DONE), heard=1)
        for answer in (DONE, LATE):
            self.check(state_of((0, 0, 0, DONE), heard=1, lanes=((), (tell(0, answer),))), ("get", 1, 0), had,
                       ("told", (0, 0, 0), False))

    def test_not_tried(self):
        self.check(state_of(lanes=((tell(0, DONE),), ())), ("get", 0, 0), state_of(), ("told", (0, 0, 0), False))

    def test_heard_rises_as_far_as_it_can(self):
        none, had = (0, 0, 0, None), (0, 0, 0, DONE)
        self.check(state_of(none, had, none, lanes=((tell(0, DONE),), ())), ("get", 0, 0),
                   state_of(had, had, none, heard=2), ("told", (0, 0, 0), True))
        self.check(state_of(none, none, lanes=((tell(1, DONE),), ())), ("get", 0, 0),
                   state_of(none, had), ("told", (0, 0, 1), True))


class TestOtherSteps(Steps):
    LANES = ((ask(0, 4), ask(1, 0), tell(0, DONE)), (tell(1, LATE),))

    def turned(self, step, lanes, event):
        self.check(state_of((0, 0, 0, None), lanes=self.LANES), step, state_of((0, 0, 0, None), lanes=lanes), event)

    def test_lose(self):
        one, other = self.LANES
        self.turned(("lose", 0, 0), (one[1:], other), ("lost", ask(0, 4)))
        self.turned(("lose", 0, 1), (one[:1] + one[2:], other), ("lost", ask(1, 0)))
        self.turned(("lose", 0, 2), (one[:2], other), ("lost", tell(0, DONE)))
        self.turned(("lose", 1, 0), (one, ()), ("lost", tell(1, LATE)))

    def test_double(self):
        one, other = self.LANES
        for k in range(3):
            self.turned(("double", 0, k), (one + one[k:k + 1], other), ("doubled", one[k]))
        self.turned(("double", 1, 0), (one, other * 2), ("doubled", tell(1, LATE)))

    def test_tick(self):
        for clock in (0, 7, HUGE):
            self.check(state_of(clock=clock, lanes=self.LANES), ("tick",),
                       state_of(clock=clock + 1, lanes=self.LANES), ("clock", clock + 1))

    def test_tear(self):
        one, other = self.LANES
        self.turned(("tear", 0), ((), other), ("torn", 3))
        self.turned(("tear", 1), (one, ()), ("torn", 1))
        self.check(state_of(), ("tear", 1), state_of(), ("torn", 0))

    def test_fall(self):
        waiting = ((1, "safe", 2, 0), (2, "till", 1, 9))
        self.check(state_of(house=house_of(waiting=waiting), lanes=self.LANES), ("fall",),
                   state_of(house=house_of(), lanes=self.LANES), ("fallen", 2))
        self.check(state_of(), ("fall",), state_of(), ("fallen", 0))
        full = house_of((("till", 5),), (DONE,))
        self.check(state_of(house=full), ("fall",), state_of(house=full), ("fallen", 0))
        # Of all GROUPS.
        house = ((), (), (((0, 0), 0, 0, (), waiting), ((0, 2), 0, 0, (), ()), ((2, 0), 0, 0, (), waiting[:1])))
        told = stepped(SETTING, (*begun(SETTING)[:3], house), ("fall",))
        self.assertTrue(same(told[1], ("fallen", 3)))
        self.assertTrue(same(told[0][3][2], tuple((*entry[:4], ()) for entry in house[2])))


class TestNoStep(Steps):
    STATE = (*begun(SETTING)[:2], ((("tell", (0, 0, 0), DONE),) * 2, ()), begun(SETTING)[3])

    def test_no_step_by_kind(self):
        things = [("go",), ("go", 0, 0), ("go", True), ("go", False), ("go", -1), ("go", None), ("go", "0"), ["go", 0],
                  ("get",), ("get", 0), ("get", 0, 0, 0), ("get", 2, 0), ("get", -1, 0), ("get", False, 0),
                  ("get", 0, False), ("get", 0, -1), ("get", 0, None), ("get", [0], 0), ("get", (0,), 0),
                  ("tick", 0), ["tick"], "tick", ("Tick",), ("tick ",), ("tear",), ("tear", 2), ("tear", True),
                  ("tear", 0, 0), ("fall", 0), ("fall", None), (("tick",),), ("lose", 0), ("double", 1),
                  ("", 0), (None,), (0,), ("send", 0), ("nothing",), ("clock", 1), (["go"], 0)]
        for thing in (*things, *ODD_THINGS):
            self.refused(SETTING, self.STATE, thing)

    def test_no_such_caller(self):
        for caller in (3, 4, HUGE):
            self.refused(SETTING, self.STATE, ("go", caller))
        self.refused(setting_of(), state_of(), ("go", 1))

    def test_no_such_place(self):
        for word in ("get", "lose", "double"):
            for lane, k in ((0, 2), (0, HUGE), (1, 0), (1, 1), (2, 0), (True, 0)):
                self.refused(SETTING, self.STATE, (word, lane, k))
                self.refused(SETTING, self.STATE, [word, lane, k])
            self.assertEqual(len(stepped(SETTING, self.STATE, (word, 0, 1))), 2)

    def test_by_names(self):
        self.assertEqual(stepped(step=("tick",), state=begun(SETTING), setting=SETTING)[1], ("clock", 1))


class TestAgainstAPlainOne(Steps):
    def test_many_rows(self):
        chance, told = random.Random(45), {}
        for run in many_runs(chance, 150, 120):
            if not run.steps:
                state = begun(run.setting)
            else:
                state, event = stepped(run.setting, state, run.steps[-1])
                self.assertTrue(same(event, run.events[-1]), (event, run.events[-1]))
                told[event[0]] = told.get(event[0], 0) + 1
            self.assertTrue(same(state, run.state()))
        words = {"first", "further", "nothing", "asked", "told", "lost", "doubled", "clock", "torn", "fallen"}
        self.assertEqual(set(told), words)
        self.assertGreater(min(told.values()), 30)

    def test_what_can_be_and_what_cannot(self):
        chance, refused = random.Random(46), 0
        steps = [("go", caller) for caller in range(5)] + [("tick",), ("fall",), ("tear", 0), ("tear", 1)]
        steps += [(word, lane, k) for word in ("get", "lose", "double") for lane in (0, 1) for k in range(4)]
        for run in many_runs(chance, 40, 60):
            state = run.state()
            for step in steps:
                other = copy.deepcopy(run)
                if other.can(step):
                    event = other.step(step)
                    self.assertTrue(same(stepped(run.setting, state, step), (other.state(), event)))
                else:
                    refused += 1
                    self.refused(run.setting, state, step)
        self.assertGreater(refused, 500)

    def test_nothing_hangs_on_what_was_asked_before(self):
        run = PlainRun(setting_of())
        rows = [stepped(run.setting, run.state(), ("go", 0)) for _ in range(3)]
        self.assertEqual(rows, [rows[0]] * 3)
        self.assertEqual(stepped(run.setting, rows[0][0], ("tick",)), stepped(run.setting, rows[1][0], ("tick",)))


if __name__ == "__main__":
    unittest.main()

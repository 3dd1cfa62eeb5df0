import copy
import random
import unittest

from plain import PlainRun, made_run
from things import ODD_THINGS, SETTING, same

from twicecalls.errors import LostError, NoPaper, NoStep
from twicecalls.linechecker import lets_line
from twicecalls.oneline import line_of
from twicecalls.runs import run

TICK = ("tick",)


class Lines(unittest.TestCase):
    def check(self, steps, line, setting=SETTING):
        before = copy.deepcopy((setting, steps))
        told = line_of(setting, steps)
        self.assertTrue(same(told, line), told)
        self.assertTrue(same((setting, steps), before))
        state, _ = run(setting, steps, None, len(steps))
        self.assertTrue(same(lets_line(setting, told), state[3][1]))


class TestLineOf(Lines):
    def test_none(self):
        self.check((), ())
        self.check((("go", 1), ("fall",), ("tear", 0)), ())
        self.assertEqual(line_of(steps=(TICK,), setting=SETTING), (TICK,))

    def test_ticks_tries_and_those_decided(self):
        self.check((TICK, ("go", 0), TICK, ("get", 0, 0), ("get", 0, 0), ("go", 2), ("double", 0, 0), ("get", 0, 0)),
                   (TICK, ("try", (0, 0, 0)), TICK, ("come", (0, 0, 0)), ("try", (2, 0, 0)), ("come", (2, 0, 0))))

    def test_further_tries_are_no_try(self):
        steps = (("go", 0), ("go", 0), ("tear", 0), ("tear", 1), TICK, TICK, TICK, ("go", 0), ("go", 0))
        self.check(steps, (("try", (0, 0, 0)), ("try", (0, 0, 1)), TICK, TICK, TICK, ("try", (0, 2, 0))))
        # The window is full, and the other GROUP's one is tried: now the first one is tried again.
        self.assertEqual(run(SETTING, steps)[1][-1][0], "further")

    def test_several_decided_by_one_step_in_the_books_order(self):
        self.check((("go", 0), ("go", 0), ("get", 1, 0), ("get", 0, 0)),
                   (("try", (0, 0, 0)), ("try", (0, 0, 1)), ("come", (0, 0, 0)), ("come", (0, 0, 1))))

    def test_what_comes_twice_is_not_decided_twice(self):
        self.check((("go", 0), ("double", 0, 0), ("get", 0, 0), ("get", 0, 0), ("get", 0, 0)),
                   (("try", (0, 0, 0)), ("come", (0, 0, 0))))

    def test_however_many_steps(self):
        self.check((TICK,) * 800 + (("go", 0),), (TICK,) * 800 + (("try", (0, 0, 0)),))

    def test_no_step(self):
        for thing in (("go", 3), ["tick"], ("get", 0, 1), ("tick", 0), *ODD_THINGS):
            for steps in ((("go", 0), thing, None), (thing, ["tick"])):
                with self.assertRaises(NoStep) as caught:
                    line_of(SETTING, steps)
                self.assertIsInstance(caught.exception, LostError)
                self.assertIs(caught.exception.step, thing)

    def test_against_a_plain_one(self):
        chance, many = random.Random(59), 0
        for _ in range(200):
            plain = made_run(chance, chance.randrange(150), chance.choice((0, 0.1, 0.3)))
            line = []
            for event in plain.events:
                if event[0] == "clock":
                    line.append(TICK)
                elif event[0] in ("first", "asked"):
                    line += [("try", event[1])] if event[0] == "first" else [("come", key) for key in event[2]]
            many += sum(len(event[-1]) > 1 for event in plain.events if event[0] == "asked")
            self.check(tuple(plain.steps), tuple(line), plain.setting)
        self.assertGreater(many, 20)

    def test_one_lane_comes_to_the_same_book(self):
        # [7]: the "asks" of a LINE come to a house one behind the other, where nothing is lost, doubled or tried again.
        chance, many = random.Random(60), 0
        for _ in range(150):
            plain = made_run(chance, 100, 0.2)
            line = line_of(plain.setting, tuple(plain.steps))
            book = lets_line(plain.setting, line)
            house = OneLane(plain.setting)
            for entry in line:
                house.done(*entry)
            self.assertTrue(same(tuple(house.run.house.book.items()), book))
            self.assertTrue(same(book, plain.state()[3][1]))
            many += len(book)
        self.assertGreater(many, 300)

    def test_a_line_that_is_none(self):
        line = line_of(SETTING, (("go", 0), ("get", 0, 0)))
        with self.assertRaises(NoPaper):
            lets_line(SETTING, line[::-1])


class OneLane:
    """The house of a plain run, to which "asks" come in the order of a LINE."""

    def __init__(self, setting):
        self.run, self.first = PlainRun(setting), {}

    def done(self, word, key=None):
        if word == "tick":
            self.run.clock += 1
        elif word == "try":
            self.first[key] = self.run.clock
        else:
            cell, number, span = self.run.callers[key[0]][0][key[1]][key[2]]
            self.run.house.ask(self.run.clock, ("ask", key, cell, number, self.first[key] + span, 0))


if __name__ == "__main__":
    unittest.main()

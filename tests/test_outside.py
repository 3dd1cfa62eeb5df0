import copy
import itertools
import random
import unittest

from histories import HISTORY, history_made
from plain import made_run
from things import HUGE, ODD_THINGS, SETTING, same

from twicecalls.barchecker import lets_bar
from twicecalls.errors import CallError, LostError, NoOrder, NoPaper, NoStep
from twicecalls.orderchecker import lets_order
from twicecalls.outside import history_of, ordered
from twicecalls.records import is_history

LATE = ("late",)
TICK = ("tick",)


def entry(key, cell, number, begin, end, answer):
    return (key, cell, number, begin, end, ("done", answer) if isinstance(answer, int) else answer)


class Outside(unittest.TestCase):
    def order(self, history):
        """Its ORDER, looked at by the checker."""
        before = copy.deepcopy(history)
        order = ordered(history)
        self.assertTrue(same(history, before))
        self.assertIs(lets_order(history, order), True)
        return order

    def bar(self, history, word):
        """Its BAR, looked at by the checker."""
        before = copy.deepcopy(history)
        with self.assertRaises(NoOrder) as caught:
            ordered(history)
        self.assertTrue(same(history, before))
        self.assertIsInstance(caught.exception, CallError)
        bar = caught.exception.bar
        self.assertEqual(lets_bar(history, bar), word)
        return bar


class TestOrdered(Outside):
    def test_none(self):
        self.assertTrue(same(self.order(()), ()))
        self.assertEqual(ordered(history=()), ())

    def test_late_ones_alone(self):
        history = (entry((0, 0, 0), "a", 3, 4, 9, LATE), entry((0, 0, 1), "a", 3, 4, 9, LATE),
                   entry((1, 0, 0), "a", 3, 0, 2, LATE))
        self.assertEqual(set(self.order(history)), {(0, 0, 0), (0, 0, 1), (1, 0, 0)})
        self.assertLess(self.order(history).index((1, 0, 0)), self.order(history).index((0, 0, 0)))

    def test_by_cells_against_their_keys(self):
        history = (entry((0, 0, 0), "a", 1, 0, 9, 6), entry((1, 0, 0), "a", 2, 0, 9, 5),
                   entry((2, 0, 0), "a", 3, 0, 9, 3))
        self.assertTrue(same(self.order(history), ((2, 0, 0), (1, 0, 0), (0, 0, 0))))

    def test_by_each_word(self):
        history = (entry((0, 0, 0), "a", 1, 5, 9, 3), entry((0, 0, 1), "b", 2, 5, 9, 2),
                   entry((1, 0, 0), "a", 2, 5, 9, 2), entry((2, 0, 0), "c", 3, 0, 4, LATE))
        order = self.order(history)
        self.assertEqual(order[0], (2, 0, 0))
        self.assertLess(order.index((1, 0, 0)), order.index((0, 0, 0)))

    def test_a_gap(self):
        # Below 0, alone and beside others.
        self.assertEqual(self.bar((entry((0, 0, 0), "a", 5, 0, 0, 4),), "gap"), ("gap", (0, 0, 0)))
        self.assertEqual(self.bar((entry((0, 0, 0), "a", 5, 0, 0, 0),), "gap"), ("gap", (0, 0, 0)))
        self.bar((entry((0, 0, 0), "a", 5, 0, 0, 5), entry((0, 0, 1), "a", HUGE, 0, 0, 5)), "gap")
        # With no ANSWER on its cell: on none, on another one, of a late one.
        self.assertEqual(self.bar((entry((0, 0, 0), "a", 5, 0, 0, 6),), "gap"), ("gap", (0, 0, 0)))
        self.bar((entry((0, 0, 0), "b", 1, 0, 0, 1), entry((0, 0, 1), "a", 5, 0, 0, 6)), "gap")
        self.bar((entry((0, 0, 0), "a", 1, 0, 0, LATE), entry((0, 0, 1), "a", 5, 0, 0, 6)), "gap")

    def test_twice(self):
        for low in (0, 3):
            ahead = (entry((0, 0, 0), "a", 3, 0, 9, 3),) if low else ()
            rows = ahead + (entry((1, 0, 0), "a", 2, 0, 9, low + 2), entry((2, 0, 0), "a", 7, 0, 9, low + 7))
            self.assertEqual(set(self.bar(rows, "twice")[1:]), {(1, 0, 0), (2, 0, 0)})
            # Of other cells, or where one is late, none.
            self.order(rows[:-1] + (entry((2, 0, 0), "a", 7, 0, 9, LATE),))
            self.order(ahead + (rows[-2], entry((2, 0, 0), "b", 7, 0, 9, 7)))

    def test_a_ring_by_each_word(self):
        # By time and group; by time and cell; by group and cell; by all three.
        history = (entry((0, 0, 0), "a", 1, 5, 9, LATE), entry((0, 0, 1), "a", 1, 0, 1, LATE))
        self.assertEqual(set(self.bar(history, "ring")[1]), {(0, 0, 0), (0, 0, 1)})
        history = (entry((0, 0, 0), "a", 1, 5, 9, 1), entry((1, 0, 0), "a", 1, 0, 1, 2))
        self.assertEqual(set(self.bar(history, "ring")[1]), {(0, 0, 0), (1, 0, 0)})
        history = (entry((0, 0, 0), "a", 1, 0, 9, 2), entry((0, 0, 1), "a", 1, 0, 9, 1))
        self.assertEqual(set(self.bar(history, "ring")[1]), {(0, 0, 0), (0, 0, 1)})
        history = (entry((0, 0, 0), "b", 1, 0, 9, 1), entry((0, 0, 1), "a", 1, 0, 2, 1),
                   entry((1, 0, 0), "c", 1, 3, 9, LATE), entry((2, 0, 0), "b", 1, 0, 2, LATE))
        self.order(history)
        history = (entry((0, 0, 0), "a", 1, 0, 9, 2), entry((0, 0, 1), "b", 1, 0, 1, 1),
                   entry((1, 0, 0), "a", 1, 2, 9, 1))
        self.assertEqual(set(self.bar(history, "ring")[1]), {(0, 0, 0), (0, 0, 1), (1, 0, 0)})

    def test_a_ring_with_others_ahead_and_behind(self):
        ring = (entry((1, 0, 0), "a", 1, 10, 19, LATE), entry((1, 0, 1), "a", 1, 10, 19, 2),
                entry((1, 1, 0), "a", 1, 10, 19, 3), entry((1, 2, 0), "a", 1, 10, 19, 5),
                entry((1, 2, 1), "a", 1, 10, 19, 4))
        ahead = tuple(entry((0, k, 0), "a", 1, 0, 1, LATE if k else 1) for k in range(3))
        behind = tuple(entry((2, k, 0), "b", 1, 90, 99, LATE) for k in range(3))
        bar = self.bar(ahead + ring + behind, "ring")
        self.assertEqual(set(bar[1]), {(1, 2, 0), (1, 2, 1)})

    def test_many_histories(self):
        chance, told = random.Random(74), {}
        for _ in range(1500):
            history = history_made(chance)
            try:
                order = ordered(history)
                word = "order"
            except NoOrder as refusal:
                word = lets_bar(history, refusal.bar)
            told[word] = told.get(word, 0) + 1
            if word == "order":
                self.assertIs(lets_order(history, order), True)
            elif len(history) < 6:
                self.check_no_order(history)
        self.assertEqual(set(told), {"order", "gap", "twice", "ring"})
        self.assertGreater(min(told.values()), 15)

    def test_many_rings(self):
        # HISTORIES that could be, but for their times.
        chance, told = random.Random(75), {}
        for _ in range(400):
            rows, cells = [], {}
            for group in range(3):
                for n in range(chance.randrange(4)):
                    rows.append(((0, group, n), chance.choice("ab"), chance.randrange(1, 4)))
            chance.shuffle(rows)
            history = []
            for key, cell, number in rows:
                cells[cell] = cells.get(cell, 0) + number
                begin = chance.randrange(12)
                history.append((key, cell, number, begin, begin + chance.randrange(6),
                                chance.choice((("done", cells[cell]),))))
            history = tuple(sorted(history))
            try:
                self.order(history)
                told["order"] = told.get("order", 0) + 1
            except NoOrder:
                self.assertEqual(self.bar(history, "ring")[0], "ring")
                told["ring"] = told.get("ring", 0) + 1
                if len(history) < 6:
                    self.check_no_order(history)
        self.assertGreater(min(told["order"], told["ring"]), 40)

    def check_no_order(self, history):
        for order in itertools.permutations([row[0] for row in history]):
            with self.assertRaises(NoPaper):
                lets_order(history, order)

    def test_never_both(self):
        # [74]: of HISTORIES that have an ORDER no BAR of two keys is let by.
        chance = random.Random(76)
        for _ in range(400):
            history = history_made(chance)
            keys = [row[0] for row in history]
            bars = [("gap", key) for key in keys] + [("twice", *two) for two in itertools.product(keys, repeat=2)]
            bars += [("ring", two) for two in itertools.product(keys, repeat=2)]
            try:
                ordered(history)
            except NoOrder:
                continue
            for bar in bars:
                with self.assertRaises(NoPaper):
                    lets_bar(history, bar)

    def test_of_many_keys(self):
        history = tuple(entry((0, 0, n), "a", 1, n, n + 9, n + 1) for n in range(200))
        self.assertTrue(same(self.order(history), tuple(row[0] for row in history)))

    def test_a_history_of_the_other_tests(self):
        # HISTORY has a done one whose LOW is below 0.
        self.assertEqual(self.bar(HISTORY, "gap"), ("gap", (2, 1, 1)))


class TestHistoryOf(Outside):
    STEPS = (("go", 0), ("go", 0), TICK, TICK, ("go", 2), ("get", 0, 1), ("get", 0, 0), ("get", 1, 0), TICK,
             ("get", 0, 1), TICK)

    def check(self, steps, history, setting=SETTING):
        before = copy.deepcopy((setting, steps))
        told = history_of(setting, steps)
        self.assertTrue(same(told, history), told)
        self.assertTrue(same((setting, steps), before))
        self.assertIs(is_history(told), True)

    def test_none(self):
        self.check((), ())
        self.check((("go", 0), TICK, TICK), ())

    def test_late_ones_and_ones_without_answer_at_their_callers(self):
        self.check(self.STEPS, (
            ((0, 0, 0), "till", 5, 0, 3, ("done", 5)),
            ((0, 0, 1), "till", 1, 0, 4, LATE),
            ((2, 0, 0), "box", 1, 2, 4, ("done", 1))))
        # Once its ANSWER is there, the clock doesn't matter.
        self.check((*self.STEPS, ("get", 1, 0), TICK, TICK), (
            ((0, 0, 0), "till", 5, 0, 3, ("done", 5)),
            ((0, 0, 1), "till", 1, 0, 4, LATE),
            ((2, 0, 0), "box", 1, 2, 6, ("done", 1))))

    def test_a_tell_that_comes_twice(self):
        steps = (("go", 0), ("get", 0, 0), ("double", 0, 0), TICK, ("get", 0, 0), TICK, ("get", 0, 0), TICK)
        self.check(steps, (((0, 0, 0), "till", 5, 0, 1, ("done", 5)),))

    def test_begin_is_the_first_try(self):
        steps = (TICK, ("go", 0), ("tear", 0), *(TICK,) * 3, ("go", 0), ("tear", 1), *(TICK,) * 3, ("go", 0),
                 ("get", 0, 0))
        caller = (((("till", 5, 20),),), (1, 1), (3, 1))
        self.check(steps, (((0, 0, 0), "till", 5, 1, 7, ("done", 5)),), ((caller,), 2, 3))

    def test_however_many_steps(self):
        self.check((TICK,) * 900 + (("go", 0), ("get", 0, 0), TICK), (((0, 0, 0), "till", 5, 900, 901, ("done", 5)),))

    def test_by_names(self):
        self.assertEqual(history_of(steps=self.STEPS, setting=SETTING), history_of(SETTING, self.STEPS))

    def refused(self, step, steps):
        with self.assertRaises(NoStep) as caught:
            history_of(SETTING, steps)
        self.assertIsInstance(caught.exception, LostError)
        self.assertIs(caught.exception.step, step)

    def test_no_step(self):
        for thing in (("go", 3), ("get", 0, 1), ["tick"], ("go", True), *ODD_THINGS):
            self.refused(thing, (("go", 0), thing, None, ("go", 9)))
            self.refused(thing, (thing,))
        one, other = ["tick"], ["tick"]
        self.refused(one, (one, other))
        self.refused(one, (TICK,) * 500 + (one,))

    def test_the_books_keys_are_an_order_of_it(self):
        chance, late, lacking = random.Random(77), 0, 0
        for _ in range(200):
            plain = made_run(chance, chance.randrange(120), chance.choice((0, 0.1, 0.3)))
            steps = tuple(plain.steps)
            told = history_of(plain.setting, steps)
            self.assertTrue(same(told, self.plain(plain)))
            keys = tuple(plain.house.book)
            self.assertIs(lets_order(told, keys), True)
            self.order(told)
            late += sum(row[5] == LATE for row in told)
            lacking += sum(plain.calls[key][3] is None for key in keys)
        self.assertGreater(min(late, lacking), 50)

    def plain(self, plain):
        had_at, clock = {}, 0
        for event in plain.events:
            clock += event[0] == "clock"
            if event[0] == "told" and event[2]:
                self.assertNotIn(event[1], had_at)
                had_at[event[1]] = clock
        rows = []
        for key, answer in plain.house.book.items():
            cell, number, _ = plain.callers[key[0]][0][key[1]][key[2]]
            rows.append((key, cell, number, plain.calls[key][0], had_at.get(key, clock), answer))
        return tuple(sorted(rows))


if __name__ == "__main__":
    unittest.main()

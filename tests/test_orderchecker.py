import copy
import itertools
import random
import unittest

from histories import HISTORY, history_made, plain_words
from things import HUGE, ODD_THINGS, same, spoiled

from twicecalls.errors import CallError, NoPaper
from twicecalls.orderchecker import lets_order

LATE = ("late",)


def entry(key, cell, number, begin, end, answer):
    return (key, cell, number, begin, end, ("done", answer) if isinstance(answer, int) else answer)


# Two GROUPS; on till 5, 7, 10 come to be, on safe 2; one late. By time the first is AHEAD of the last one alone.
ROWS = (
    entry((0, 0, 0), "till", 5, 0, 3, 5),
    entry((0, 0, 1), "till", 3, 2, 9, 10),
    entry((0, 0, 2), "safe", 2, 2, 9, 2),
    entry((1, 0, 0), "till", 2, 1, 9, 7),
    entry((1, 0, 1), "till", 9, 4, 9, LATE),
)
A, B, C, D, E = (row[0] for row in ROWS)


class Orders(unittest.TestCase):
    def refused(self, word, at, thing, history=ROWS):
        with self.assertRaises(NoPaper) as caught:
            lets_order(history, thing)
        self.assertIsInstance(caught.exception, CallError)
        self.assertTrue(same((caught.exception.word, caught.exception.at), (word, at)), (vars(caught.exception), thing))

    def let_by(self, thing, history=ROWS):
        before = copy.deepcopy((thing, history))
        self.assertIs(lets_order(history, thing), True)
        self.assertTrue(same((thing, history), before))


class TestLetBy(Orders):
    def test_orders(self):
        for order in ((A, D, B, C, E), (A, D, E, B, C), (A, D, B, E, C)):
            self.let_by(order)
        self.assertIs(lets_order(thing=(A, D, B, C, E), history=ROWS), True)

    def test_of_none(self):
        self.let_by((), ())
        for thing in ((A,), (None,), ((),)):
            self.refused("key", 0, thing, ())

    def test_late_ones_add_nothing(self):
        history = (entry((0, 0, 0), "a", 3, 0, 9, LATE), entry((0, 1, 0), "a", 4, 0, 9, 4),
                   entry((0, 2, 0), "a", HUGE, 0, 9, LATE), entry((0, 3, 0), "a", 1, 0, 9, 5))
        keys = [row[0] for row in history]
        for order in itertools.permutations(keys):
            if order.index(keys[1]) < order.index(keys[3]):
                self.let_by(order, history)
            else:
                self.refused("told", order.index(keys[3]), order, history)

    def test_late_ones_alone(self):
        history = (entry((0, 0, 0), "a", 3, 0, 9, LATE), entry((0, 0, 1), "a", 4, 0, 9, LATE))
        self.let_by(((0, 0, 0), (0, 0, 1)), history)
        self.refused("ahead", 0, ((0, 0, 1), (0, 0, 0)), history)


class TestRefused(Orders):
    def test_shape(self):
        for thing in (list((A, D, B, C, E)), [], None, True, 0, "", "order", HUGE):
            self.refused("shape", -1, thing)
            self.refused("shape", -1, thing, ())
        for thing in ODD_THINGS:
            if not isinstance(thing, tuple):
                self.refused("shape", -1, thing)

    def test_key(self):
        others = ((0, 0, 3), (9, 0, 0), (0, 0), (0, 0, 0, 0), [0, 0, 0], (False, 0, 0), (0, False, 0), (0, 0, False),
                  (0, 0, True), (True, 0, 0), (0, 0, HUGE), (-1, 0, 0), (0, 0, None), ROWS[0], "0.0.0", None, True, 0,
                  (), [], *ODD_THINGS)
        for key in others:
            for k in range(6):
                order = (A, D, B, C, E)
                self.refused("key", k, (*order[:k], key, *order[k:]))
        for thing in ODD_THINGS:
            if isinstance(thing, tuple) and thing != ():
                self.refused("key", 0, thing)

    def test_one_that_stands_ahead(self):
        self.refused("key", 1, (A, A, D, B, C, E))
        self.refused("key", 5, (A, D, B, C, E, E))
        self.refused("key", 3, (A, D, B, A))

    def test_few(self):
        self.refused("few", -1, ())
        for order in ((A, D, B, C), (D, B, C, E), (E,)):
            self.refused("few", -1, order)

    def test_ahead(self):
        # By group.
        self.refused("ahead", 1, (A, E, D, B, C))
        self.refused("ahead", 2, (A, D, C, B, E))
        self.refused("ahead", 0, (C, A, D, B, E))
        # By time: A is AHEAD of E.
        history = ROWS[:1] + (entry((1, 0, 0), "till", 9, 4, 9, LATE),)
        self.refused("ahead", 0, ((1, 0, 0), A), history)
        self.let_by((A, (1, 0, 0)), history)
        # An end just at the begin of the other is not AHEAD.
        history = (ROWS[0], entry((1, 0, 0), "till", 9, 3, 9, LATE))
        self.let_by(((1, 0, 0), A), history)

    def test_cells_are_told_not_ahead(self):
        # D is AHEAD of B by cell alone.
        self.refused("told", 1, (A, B, D, C, E))

    def test_told(self):
        self.refused("told", 0, (D, A, B, C, E))
        for answer in (0, 4, 6, HUGE):
            history = (entry((0, 0, 0), "a", 5, 0, 0, answer),)
            self.refused("told", 0, ((0, 0, 0),), history)
        history = (entry((0, 0, 0), "a", 5, 0, 9, 5), entry((0, 0, 1), "b", 5, 0, 9, 10))
        self.refused("told", 1, ((0, 0, 0), (0, 0, 1)), history)

    def test_two_at_once(self):
        self.refused("key", 1, (A, None))
        self.refused("key", 4, (E, D, C, B, None))
        self.refused("few", -1, (E, D, C, B))
        # Both words of one ahead of the next one's.
        self.refused("ahead", 0, (B, A, D, C, E))
        self.refused("told", 0, (D, A, E, C, B))
        self.refused("told", 1, (A, B, C, E, D))
        self.refused("ahead", 1, (A, C, B, E, D))
        history = (entry((0, 0, 0), "a", 5, 0, 9, 5), entry((0, 0, 1), "a", 5, 0, 9, 11))
        self.refused("ahead", 0, ((0, 0, 1), (0, 0, 0)), history)
        self.refused("told", 1, ((0, 0, 0), (0, 0, 1)), history)

    def test_one_part_otherwise(self):
        order = (A, D, B, C, E)
        for thing in spoiled(order):
            self.assertRaises(NoPaper, lets_order, ROWS, thing)


class TestMany(Orders):
    def plain(self, history, order):
        at = {row[0]: row for row in history}
        cells = {}
        for k, key in enumerate(order):
            if any({"time", "group"} & set(plain_words(at[other], at[key])) for other in order[k + 1:]):
                return ("ahead", k)
            _, cell, number, _, _, answer = at[key]
            if answer != LATE:
                cells[cell] = cells.get(cell, 0) + number
                if answer[1] != cells[cell]:
                    return ("told", k)
        return None

    def test_against_a_plain_one(self):
        chance, seen = random.Random(73), {}
        for _ in range(1500):
            history = history_made(chance)
            keys = [row[0] for row in history]
            orders = [tuple(chance.sample(keys, len(keys))) for _ in range(3)]
            orders.append(tuple(keys))
            for order in orders:
                why = self.plain(history, order)
                seen[why and why[0]] = seen.get(why and why[0], 0) + 1
                if why is None:
                    self.let_by(order, history)
                else:
                    self.refused(*why, order, history)
        self.assertEqual(set(seen), {None, "ahead", "told"})
        self.assertGreater(min(seen.values()), 200)

    def test_of_many_keys(self):
        history = tuple(entry((0, 0, n), "a", 1, 0, 9, n + 1) for n in range(300))
        self.let_by(tuple(row[0] for row in history), history)

    def test_histories_are_handed_in_again(self):
        for word in ("key", "few"):
            thing = (None,) if word == "key" else ()
            self.refused(word, 0 if word == "key" else -1, thing, HISTORY)


if __name__ == "__main__":
    unittest.main()

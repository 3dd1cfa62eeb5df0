import copy
import itertools
import random
import unittest

from histories import HISTORY, history_made, plain_words
from things import HUGE, ODD_THINGS, same, spoiled

from twicecalls.barchecker import lets_bar
from twicecalls.errors import CallError, NoPaper

LATE = ("late",)


def entry(key, cell, number, begin, end, answer):
    return (key, cell, number, begin, end, ("done", answer) if isinstance(answer, int) else answer)


# LOWS on till: 0, 5, 5, 8 (nobody's ANSWER), below 0; on safe 0, none of a late one, 5. By time the second and the
# third are AHEAD of the first and of the fourth; by cell the first is AHEAD of the second and of the third.
ROWS = (
    entry((0, 0, 0), "till", 5, 4, 9, 5),
    entry((0, 0, 1), "till", 2, 0, 1, 7),
    entry((0, 0, 2), "till", 4, 1, 3, 9),
    entry((0, 1, 0), "till", 3, 4, 9, 11),
    entry((0, 1, 1), "till", 3, 0, 9, 2),
    entry((1, 0, 0), "safe", 5, 0, 9, 5),
    entry((1, 0, 1), "safe", 5, 0, 9, LATE),
    entry((1, 1, 0), "safe", 2, 0, 9, 7),
)
A, B, C, D, E, SAFE, LATER, OTHER = (row[0] for row in ROWS)
NO_KEYS = ((0, 0, 3), (9, 9, 9), (0, 2, 0), (0, 0, HUGE), (0, 0), (0, 0, 0, 0), [0, 0, 0], (False, 0, 0),
           (0, False, 0), (0, 0, True), (0, -1, 0), (-1, 0, 0), (0, 0, None), ROWS[0], "0.0.0", None, True, 0, (), [])


class Refused(unittest.TestCase):
    def refused(self, word, at, thing, history=ROWS):
        with self.assertRaises(NoPaper) as caught:
            lets_bar(history, thing)
        self.assertIsInstance(caught.exception, CallError)
        self.assertTrue(same((caught.exception.word, caught.exception.at), (word, at)), (vars(caught.exception), thing))

    def let_by(self, thing, history=ROWS):
        before = copy.deepcopy((thing, history))
        self.assertTrue(same(lets_bar(history, thing), thing[0]))
        self.assertTrue(same((thing, history), before))


class TestKinds(Refused):
    def test_right_ones(self):
        self.let_by(("gap", D))
        self.let_by(("gap", E))
        self.let_by(("twice", B, C))
        self.let_by(("twice", C, B))
        self.let_by(("ring", (A, B)))
        self.assertEqual(lets_bar(thing=("gap", D), history=ROWS), "gap")

    def test_shape(self):
        for thing in (["gap", D], ("gap",), ("gap", D, D), ("Gap", D), ("", D), ("gap ", D), (None, D), (["gap"], D),
                      ["twice", B, C], ("twice", B), ("twice",), ("twice", B, C, A), ("twice", (B, C)), ("Twice", B, C),
                      ["ring", (A, B)], ("ring",), ("ring", A, B), ("ring", [A, B]), ("ring", ()), ("ring", (A,)),
                      ("ring", "ab"), ("ring", None), ("ring", 2), ("ring", (A, B), 0), ("ring", True), "gap",
                      "ring", (), [], None, True, 0, D, (D,), (True, D), ("order", (A, B)), ("bar", D)):
            self.refused("shape", -1, thing)
        for thing in ODD_THINGS:
            self.refused("shape", -1, thing)
            self.refused("shape", -1, thing, ())

    def test_key(self):
        for key in (*NO_KEYS, *ODD_THINGS):
            self.refused("key", 0, ("gap", key))
            self.refused("key", 0, ("twice", key, C))
            self.refused("key", 1, ("twice", B, key))
            self.refused("key", 0, ("ring", (key, A)))
            self.refused("key", 1, ("ring", (A, key)))
            self.refused("key", 3, ("ring", (A, B, A, key, B)))
            self.refused("key", 0, ("gap", key), ())
            self.refused("key", 0, ("gap", key), HISTORY[4:])

    def test_the_first_told_goes(self):
        self.refused("shape", -1, ("ring", [9, 9]))
        self.refused("shape", -1, ("ring", (9,)))
        self.refused("shape", -1, ("twice", 9))
        self.refused("key", 0, ("twice", 9, 9))
        self.refused("key", 0, ("ring", (None, D, 9)))
        # No key at the end goes ahead of what is not AHEAD at the beginning.
        self.refused("key", 2, ("ring", (D, A, 9)))
        self.refused("key", 1, ("twice", A, 9))
        self.refused("ahead", 0, ("ring", (D, A)))
        self.refused("ahead", 0, ("ring", (D, A, D)))

    def test_one_part_otherwise(self):
        for bar in (("gap", D), ("twice", B, C), ("ring", (A, B, C, A, B))):
            for thing in spoiled(bar):
                # A key left out or doubled may be another ring.
                if thing not in (("ring", (B, C, A, B)), ("ring", (A, C, A, B)), ("ring", (A, B, A, B)),
                                 ("ring", (A, B, C, B)), ("ring", (A, B, C, A))):
                    self.assertRaises(NoPaper, lets_bar, ROWS, thing)


class TestGap(Refused):
    def test_low_below_zero(self):
        for number, answer, is_gap in ((3, 2, True), (3, 0, True), (3, 3, False), (HUGE, HUGE - 1, True)):
            history = (entry((0, 0, 0), "a", number, 0, 0, answer),)
            if is_gap:
                self.let_by(("gap", (0, 0, 0)), history)
            else:
                self.refused("gap", -1, ("gap", (0, 0, 0)), history)

    def test_low_above_zero(self):
        for answer, is_gap in ((4, True), (5, False), (6, True)):
            history = (entry((0, 0, 0), "a", 5, 0, 0, 5), entry((0, 0, 1), "a", 3, 0, 0, answer + 3))
            if is_gap:
                self.let_by(("gap", (0, 0, 1)), history)
            else:
                self.refused("gap", -1, ("gap", (0, 0, 1)), history)

    def test_an_answer_on_another_cell_or_of_a_late_one_fills_nothing(self):
        history = (entry((0, 0, 0), "a", 5, 0, 0, 5), entry((0, 0, 1), "b", 3, 0, 0, 8),
                   entry((0, 0, 2), "b", 5, 0, 0, LATE))
        self.let_by(("gap", (0, 0, 1)), history)

    def test_its_own_number_fills_nothing(self):
        self.let_by(("gap", (0, 0, 0)), (entry((0, 0, 0), "a", 4, 0, 0, 8),))

    def test_one_that_stands_behind_fills_it(self):
        history = (entry((0, 0, 0), "a", 3, 0, 0, 8), entry((1, 0, 0), "a", 5, 7, 9, 5))
        self.refused("gap", -1, ("gap", (0, 0, 0)), history)

    def test_none(self):
        for key in (A, B, C, SAFE, OTHER):
            self.refused("gap", -1, ("gap", key))

    def test_a_late_one(self):
        self.refused("gap", -1, ("gap", LATER))
        self.refused("gap", -1, ("gap", (0, 0, 0)), (entry((0, 0, 0), "a", 4, 0, 0, LATE),))


class TestTwice(Refused):
    def test_of_the_same_low(self):
        for one, other in ((7, 9), (4, 6), (0, 2), (1, 3)):
            # 2 and 4: LOWS are 5, 2, and below 0, too.
            history = (entry((0, 0, 0), "a", 2, 0, 0, one), entry((3, 0, 0), "a", 4, 0, 0, other))
            self.let_by(("twice", (0, 0, 0), (3, 0, 0)), history)
            self.let_by(("twice", (3, 0, 0), (0, 0, 0)), history)

    def test_of_none_of_zero(self):
        history = (entry((0, 0, 0), "a", 2, 0, 0, 2), entry((3, 0, 0), "a", 4, 0, 0, 4))
        self.let_by(("twice", (0, 0, 0), (3, 0, 0)), history)

    def test_of_alike_keys(self):
        for key in (A, B, D, LATER):
            self.refused("twice", -1, ("twice", key, key))

    def test_of_other_lows_or_cells(self):
        for one, other in ((A, B), (B, D), (A, SAFE), (D, E), (SAFE, OTHER)):
            self.refused("twice", -1, ("twice", one, other))
            self.refused("twice", -1, ("twice", other, one))

    def test_of_late_ones(self):
        self.refused("twice", -1, ("twice", SAFE, LATER))
        self.refused("twice", -1, ("twice", LATER, SAFE))
        history = (entry((0, 0, 0), "a", 2, 0, 0, LATE), entry((0, 0, 1), "a", 2, 0, 0, LATE))
        self.refused("twice", -1, ("twice", (0, 0, 0), (0, 0, 1)), history)


class TestRing(Refused):
    def test_two(self):
        # A is AHEAD of B by group and cell, B of A by time.
        self.let_by(("ring", (A, B)))
        self.let_by(("ring", (B, A)))
        self.let_by(("ring", (A, C)))

    def test_more(self):
        self.let_by(("ring", (A, B, C)))
        self.let_by(("ring", (B, C, A)))
        self.refused("ahead", 0, ("ring", (C, B, A)))
        self.let_by(("ring", (C, A, B)))

    def test_keys_more_than_once(self):
        self.let_by(("ring", (A, B, A, C)))
        self.let_by(("ring", (A, B) * 50))
        self.refused("ahead", 1, ("ring", (A, B, B)))
        self.refused("ahead", 0, ("ring", (A, A)))
        self.refused("ahead", 2, ("ring", (A, B, A)))

    def test_each_place(self):
        # B is AHEAD of D by time, D of E by group, E of none.
        self.refused("ahead", 0, ("ring", (D, B)))
        self.refused("ahead", 1, ("ring", (B, D)))
        self.refused("ahead", 2, ("ring", (B, D, E)))
        self.refused("ahead", 0, ("ring", (E, B, D)))
        self.refused("ahead", 0, ("ring", (A, SAFE)))
        self.refused("ahead", 3, ("ring", (A, B, D, E)))

    def test_by_each_word(self):
        pairs = ((((0, 0, 0), "a", 1, 5, 9, LATE), ((0, 0, 1), "a", 1, 0, 1, LATE)),
                 (((0, 0, 0), "a", 1, 5, 9, ("done", 1)), ((0, 1, 0), "a", 1, 0, 1, ("done", 2))))
        for history in pairs:
            # By group, or by cell, the one way; by time the other.
            self.let_by(("ring", ((0, 0, 0), history[1][0])), history)
            still = (history[0], (*history[1][:4], 9, history[1][5]))
            self.refused("ahead", 1, ("ring", ((0, 0, 0), history[1][0])), still)
            self.refused("ahead", 0, ("ring", (history[1][0], (0, 0, 0))), still)

    def test_by_cells_alone(self):
        history = (entry((0, 0, 0), "a", 3, 0, 9, 5), entry((1, 0, 0), "a", 3, 0, 9, 8),
                   entry((2, 0, 0), "a", 3, 0, 9, 2))
        self.refused("ahead", 1, ("ring", ((0, 0, 0), (1, 0, 0))), history)
        self.refused("ahead", 0, ("ring", ((1, 0, 0), (0, 0, 0), (2, 0, 0))), history)


class TestMany(Refused):
    def plain(self, history, bar):
        """The refusal of a BAR that is one by kind, None of none."""
        at = {row[0]: row for row in history}
        word, keys = bar[0], bar[1] if bar[0] == "ring" else bar[1:]
        for k, key in enumerate(keys):
            if key not in at:
                return ("key", k)
        rows = [at[key] for key in keys]
        done = [row for row in history if row[5] != LATE]
        lows = [row[5][1] - row[2] if row in done else None for row in rows]
        if word == "gap":
            sums = [row[5][1] for row in done if row[1] == rows[0][1]]
            return None if rows[0] in done and lows[0] not in [0, *sums] else ("gap", -1)
        if word == "twice":
            alike = None not in lows and lows[0] == lows[1] and rows[0][1] == rows[1][1] and keys[0] != keys[1]
            return None if alike else ("twice", -1)
        for k, (one, other) in enumerate(zip(rows, rows[1:] + rows[:1])):
            if plain_words(one, other) == ():
                return ("ahead", k)
        return None

    def test_against_a_plain_one(self):
        chance, seen = random.Random(73), set()
        for _ in range(250):
            history = history_made(chance)
            keys = [row[0] for row in history] + [(9, 0, 0)] * (chance.random() < 0.1)
            bars = [("gap", key) for key in keys] + [("twice", *two) for two in itertools.product(keys, repeat=2)]
            bars += [("ring", two) for two in itertools.product(keys, repeat=2)]
            bars += [("ring", tuple(chance.choice(keys) for _ in range(3))) for _ in range(9) if keys]
            for bar in bars:
                why = self.plain(history, bar)
                seen.add((bar[0], why and why[0]))
                if why is None:
                    self.let_by(bar, history)
                else:
                    self.refused(*why, bar, history)
        self.assertEqual(seen, {("gap", None), ("gap", "gap"), ("gap", "key"), ("twice", None), ("twice", "twice"),
                                ("twice", "key"), ("ring", None), ("ring", "ahead"), ("ring", "key")})


if __name__ == "__main__":
    unittest.main()

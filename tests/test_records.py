import copy
import random
import unittest

from histories import HISTORY, history_made, plain_words
from things import HUGE, ODD_THINGS, same, spoiled

from twicecalls.errors import LostError, NoKey
from twicecalls.records import is_history, low_of, words_ahead

LATE = ("late",)


class TestIsHistory(unittest.TestCase):
    def test_histories(self):
        for thing in ((), HISTORY, HISTORY[:1], HISTORY[3:], HISTORY[4:5], HISTORY[:3] + HISTORY[6:],
                      (((5, HUGE, 0), "abcdefgh", HUGE, HUGE, HUGE, ("done", HUGE)),),
                      (((0, 0, 0), "a", 1, 0, 0, ("done", 0)),),
                      tuple(((0, 0, n), "a", 1, 0, n, LATE) for n in range(900))):
            self.assertIs(is_history(thing), True)
        self.assertIs(is_history(thing=HISTORY), True)

    def test_many(self):
        chance = random.Random(70)
        for _ in range(300):
            self.assertIs(is_history(history_made(chance)), True)

    def test_not_rising(self):
        self.assertIs(is_history(HISTORY[::-1]), False)
        for k in range(len(HISTORY) - 1):
            turned = HISTORY[:k] + (HISTORY[k + 1], HISTORY[k]) + HISTORY[k + 2:]
            self.assertIs(is_history(turned), False)

    def test_of_alike_keys(self):
        for k, entry in enumerate(HISTORY):
            self.assertIs(is_history(HISTORY[:k] + (entry,) + HISTORY[k:]), False)
            # Rising all the same, by what stands behind the key.
            more = (entry[0], "zzz", *entry[2:])
            self.assertIs(is_history(HISTORY[:k + 1] + (more,) + HISTORY[k + 1:]), False)

    def test_a_gap_in_a_group(self):
        for k in (0, 1, 4):
            self.assertIs(is_history(HISTORY[:k] + HISTORY[k + 1:]), False)
        for key in ((0, 0, 1), (7, 7, 2), (0, 0, HUGE)):
            self.assertIs(is_history(((key, "a", 1, 0, 0, LATE),)), False)
        # The one ahead is of another GROUP, or of another CALLER.
        self.assertIs(is_history(HISTORY[:1] + (((0, 1, 1), "a", 1, 0, 0, LATE),)), False)
        self.assertIs(is_history(HISTORY[:1] + (((1, 0, 1), "a", 1, 0, 0, LATE),)), False)
        self.assertIs(is_history(HISTORY[:2] + (((0, 0, 3), "a", 1, 0, 0, LATE),)), False)
        self.assertIs(is_history(HISTORY[:2] + (((0, 1, 0), "a", 1, 0, 0, LATE),)), True)

    def test_one_entry_otherwise(self):
        right = ((0, 0, 0), "till", 5, 4, 4, LATE)
        self.assertIs(is_history((right,)), True)
        for k, others in ((0, ((0, 0, -1), (0, -1, 0), (-1, 0, 0), (0, 0), (0, 0, 0, 0), [0, 0, 0], (False, 0, 0),
                               (0, False, 0), (0, 0, False), (True, 0, 0), (None, 0, 0), "0.0.0", None, 0, ())),
                          (1, ("", "Till", "abcdefghi", "ti ll", "t1", None, 0, True, ("till",), ["till"])),
                          (2, (0, -5, True, None, "5", (5,))),
                          (3, (5, -4, True, False, None, "4", HUGE)),
                          (4, (3, -4, True, False, None, "4", 0)),
                          (5, (("late", 0), "late", ["late"], ("done",), ("done", -1), ("done", True), ("done", None),
                               ("done", 1, 1), ["done", 1], ("Done", 1), None, 0, ()))):
            for other in others:
                self.assertIs(is_history((right[:k] + (other,) + right[k + 1:],)), False, other)

    def test_any_things(self):
        for thing in ODD_THINGS:
            self.assertIs(is_history(thing), thing == () and isinstance(thing, tuple))
        for thing in (list(HISTORY), HISTORY[0], HISTORY + (None,), HISTORY + ((),), HISTORY + ("abcdef",),
                      HISTORY[:6] + (list(HISTORY[6]),), HISTORY[:6] + (HISTORY[6] + (0,),),
                      HISTORY[:6] + (HISTORY[6][:5],)):
            self.assertIs(is_history(thing), False)

    def test_one_part_otherwise(self):
        for thing in spoiled(HISTORY[:3]):
            self.assertIs(is_history(thing), thing == HISTORY[:2], thing)


class TestLowOf(unittest.TestCase):
    def test_lows(self):
        told = tuple(low_of(entry) for entry in HISTORY)
        self.assertTrue(same(told, (0, 5, None, 7, 0, -4, None)), told)
        self.assertTrue(same(low_of(record=((0, 0, 0), "a", 3, 0, 0, ("done", 3))), 0))
        self.assertTrue(same(low_of(((0, 0, 0), "a", 3, 0, 0, ("done", 2))), -1))
        self.assertTrue(same(low_of(((0, 0, 0), "a", HUGE, 0, 0, ("done", 0))), -HUGE))
        self.assertTrue(same(low_of(((0, 0, 0), "a", 1, 0, 0, ("done", HUGE))), HUGE - 1))
        self.assertIsNone(low_of(((0, 0, 0), "a", 1, 0, 0, LATE)))


class TestWordsAhead(unittest.TestCase):
    def test_each_alone(self):
        self.assertTrue(same(words_ahead(HISTORY, (2, 1, 0), (2, 7, 0)), ("time",)))
        self.assertTrue(same(words_ahead(HISTORY, (0, 0, 1), (0, 0, 2)), ("group",)))
        self.assertTrue(same(words_ahead(HISTORY, (0, 0, 1), (0, 3, 0)), ("cell",)))
        self.assertTrue(same(words_ahead(HISTORY, (0, 3, 0), (2, 7, 0)), ()))

    def test_together(self):
        self.assertTrue(same(words_ahead(HISTORY, (0, 0, 0), (0, 0, 1)), ("cell", "group", "time")))
        self.assertTrue(same(words_ahead(HISTORY, (0, 0, 0), (0, 0, 2)), ("group", "time")))
        self.assertTrue(same(words_ahead(HISTORY, (2, 1, 0), (2, 1, 1)), ("group", "time")))
        rows = (((0, 0, 0), "a", 1, 0, 1, ("done", 1)), ((0, 0, 1), "a", 1, 1, 1, ("done", 2)),
                ((0, 1, 0), "a", 1, 2, 2, ("done", 2)))
        self.assertTrue(same(words_ahead(rows, (0, 0, 0), (0, 0, 1)), ("cell", "group")))
        self.assertTrue(same(words_ahead(rows, (0, 0, 0), (0, 1, 0)), ("cell", "time")))

    def test_not_the_other_way(self):
        for one, other in (((0, 0, 1), (0, 0, 0)), ((0, 0, 2), (0, 0, 1)), ((2, 7, 0), (2, 1, 0)),
                           ((0, 3, 0), (0, 0, 1))):
            self.assertTrue(same(words_ahead(HISTORY, one, other), ()))

    def test_end_just_at_the_begin_of_the_other(self):
        rows = (((0, 0, 0), "a", 1, 0, 4, LATE), ((0, 1, 0), "a", 1, 4, 4, LATE), ((0, 2, 0), "a", 1, 5, 5, LATE))
        self.assertTrue(same(words_ahead(rows, (0, 0, 0), (0, 1, 0)), ()))
        self.assertTrue(same(words_ahead(rows, (0, 0, 0), (0, 2, 0)), ("time",)))
        self.assertTrue(same(words_ahead(rows, (0, 1, 0), (0, 2, 0)), ("time",)))

    def test_of_one_with_itself_none(self):
        chance = random.Random(71)
        for history in [HISTORY] + [history_made(chance) for _ in range(100)]:
            for entry in history:
                self.assertTrue(same(words_ahead(history, entry[0], entry[0]), ()))

    def test_late_ones_have_no_word_of_cells(self):
        rows = (((0, 0, 0), "a", 1, 0, 9, ("done", 1)), ((0, 1, 0), "a", 1, 0, 9, LATE),
                ((0, 2, 0), "b", 1, 0, 9, ("done", 2)), ((0, 3, 0), "a", 1, 0, 9, ("done", 2)))
        self.assertEqual(words_ahead(rows, (0, 0, 0), (0, 1, 0)), ())
        self.assertEqual(words_ahead(rows, (0, 1, 0), (0, 0, 0)), ())
        self.assertEqual(words_ahead(rows, (0, 0, 0), (0, 2, 0)), ())
        self.assertEqual(words_ahead(rows, (0, 0, 0), (0, 3, 0)), ("cell",))

    def test_against_a_plain_one(self):
        chance = random.Random(72)
        told = set()
        for _ in range(200):
            history = history_made(chance)
            before = copy.deepcopy(history)
            for one in history:
                for other in history:
                    words = words_ahead(history, one[0], other[0])
                    told.add(words)
                    self.assertTrue(same(words, plain_words(one, other)), (one, other))
            self.assertTrue(same(history, before))
        self.assertEqual(len(told), 8)

    def refused(self, key, *handed):
        with self.assertRaises(NoKey) as caught:
            words_ahead(*handed)
        self.assertIsInstance(caught.exception, LostError)
        self.assertIs(caught.exception.key, key)

    def test_no_keys(self):
        for key in ((0, 0, 3), (0, 1, 0), (1, 0, 0), (0, 0, HUGE), (2, 7, 1), (0, 0), (0, 0, 0, 0), [0, 0, 0],
                    (False, 0, 0), (0, False, 0), (0, 0, False), (0, 0, True), (0, 3, False), (-1, 0, 0), (0, 0, -1),
                    HISTORY[0], "0.0.0", None, True, 0, *ODD_THINGS):
            self.refused(key, HISTORY, key, (0, 0, 0))
            self.refused(key, HISTORY, (0, 0, 0), key)
            self.refused(key, (), key, (0, 0, 0))

    def test_the_first_of_both(self):
        one, other = [0, 0, 0], (9, 9, 9)
        self.refused(one, HISTORY, one, other)
        self.refused(other, HISTORY, other, one)
        # Alike, but another thing.
        one, other = (9, 9, 9 + len(HISTORY)), (9, 9, 9 + len(HISTORY))
        self.refused(one, HISTORY, one, other)
        self.refused(other, HISTORY, other, one)

    def test_by_names(self):
        self.assertEqual(words_ahead(other=(0, 0, 2), history=HISTORY, one=(0, 0, 1)), ("group",))


if __name__ == "__main__":
    unittest.main()

import copy
import random
import unittest

from plain import made_run
from things import KEYS, NO_KEYS, ODD_THINGS, SETTING, same

from twicecalls.books import lets_book
from twicecalls.errors import LostError, NoKey, NoStep
from twicecalls.runs import run
from twicecalls.stories import outcomes, story_of

TICK = ("tick",)
DONE, LATE = ("done", 5), ("late",)
# 0.0.1 waits at the house, and is DECIDED behind 0.0.0 by STEP 4; the CALLER gets its "tell" ahead of the other one.
STEPS = (("go", 0), ("go", 0), ("get", 1, 0), TICK, ("get", 0, 0), TICK, ("get", 0, 1), ("double", 0, 0), ("get", 0, 0),
         ("go", 2), ("get", 0, 0))


class Stories(unittest.TestCase):
    def story(self, steps, key, told, setting=SETTING):
        before = copy.deepcopy((setting, steps, key))
        self.assertTrue(same(story_of(setting, steps, key), told), story_of(setting, steps, key))
        self.assertTrue(same((setting, steps, key), before))

    def refused(self, kind, thing, look, *handed):
        with self.assertRaises(kind) as caught:
            look(SETTING, *handed)
        self.assertIsInstance(caught.exception, LostError)
        kept = caught.exception.key if kind == NoKey else caught.exception.step
        self.assertIs(kept, thing)


class TestStoryOf(Stories):
    def test_not_tried_tried_alone_decided_alone_told(self):
        steps = (TICK, ("go", 0), ("get", 0, 0), TICK, ("get", 0, 0))
        for k, told in ((0, (None, None, None)), (1, (None, None, None)), (2, (1, None, None)), (3, (1, 2, None)),
                        (4, (1, 2, None)), (5, (1, 2, 4))):
            self.story(steps[:k], (0, 0, 0), told)
            self.story(steps[:k], (0, 0, 1), (None, None, None))

    def test_several_by_one_step(self):
        self.story(STEPS, (0, 0, 0), (0, 4, 8))
        self.story(STEPS, (0, 0, 1), (1, 4, 6))
        self.story(STEPS, (2, 0, 0), (9, None, None))
        self.story(STEPS, (0, 2, 0), (None, None, None))

    def test_the_first_of_each(self):
        steps = (("go", 0), ("tear", 0), TICK, TICK, TICK, ("go", 0), ("go", 0), ("go", 0), ("get", 1, 1),
                 ("double", 1, 1), ("get", 1, 1), ("get", 1, 1))
        # By a FURTHER TRY it was not tried first.
        self.assertEqual(run(SETTING, steps)[1][7], ("further", (0, 0, 0), 1))
        self.story(steps, (0, 0, 0), (0, 8, 10))

    def test_one_that_waits_is_not_decided(self):
        self.story(STEPS[:4], (0, 0, 1), (1, None, None))

    def test_by_names(self):
        self.assertEqual(story_of(key=(0, 0, 1), steps=STEPS, setting=SETTING), (1, 4, 6))

    def test_no_key_ahead_of_no_step(self):
        for key in (*NO_KEYS, *ODD_THINGS):
            for steps in (STEPS, (), (None,), (("go", 9),)):
                self.refused(NoKey, key, story_of, steps, key)

    def test_no_step(self):
        for thing in (("go", 3), ["tick"], ("get", 1, 0), ("tear", True), *ODD_THINGS):
            for look, handed in ((story_of, ((0, 0, 0),)), (outcomes, ())):
                self.refused(NoStep, thing, look, (("go", 0), thing, None), *handed)
                self.refused(NoStep, thing, look, (thing, ["tick"]), *handed)
        one = ["tick"]
        self.refused(NoStep, one, outcomes, (TICK,) * 700 + (one,))


class TestOutcomes(Stories):
    def test_none(self):
        for steps in ((), (TICK,), STEPS[:4]):
            self.assertTrue(same(outcomes(SETTING, steps), ()))

    def test_several_by_one_step(self):
        before = copy.deepcopy((SETTING, STEPS))
        self.assertTrue(same(outcomes(SETTING, STEPS), ((4, (0, 0, 0), DONE), (4, (0, 0, 1), LATE))))
        self.assertTrue(same((SETTING, STEPS), before))
        self.assertTrue(same(outcomes(steps=(*STEPS, ("get", 0, 0)), setting=SETTING),
                             ((4, (0, 0, 0), DONE), (4, (0, 0, 1), LATE), (11, (2, 0, 0), ("done", 1)))))

    def test_late_at_just_its_span_and_one_tick_more(self):
        # 0.0.2 has span 3.
        ahead = (("go", 0), ("go", 0), ("get", 0, 0), ("get", 1, 0), ("get", 0, 0), ("go", 0))
        for many, answer in ((3, ("done", 2)), (4, LATE)):
            steps = ahead + (TICK,) * many + (("get", 0, 0),)
            self.assertTrue(same(outcomes(SETTING, steps)[-1], (6 + many, (0, 0, 2), answer)))


class TestMany(Stories):
    def test_against_a_plain_one(self):
        chance, told, late = random.Random(55), {}, {True: 0, False: 0}
        for _ in range(150):
            plain = made_run(chance, chance.randrange(150), chance.choice((0, 0.1, 0.3)))
            steps = tuple(plain.steps)
            rows = outcomes(plain.setting, steps)
            self.assertTrue(same(rows, self.plain_outcomes(plain)))
            self.assertTrue(same(tuple(row[1:] for row in rows), plain.state()[3][1]))
            self.assertEqual(list(row[0] for row in rows), sorted(row[0] for row in rows))
            for key in plain.keys():
                story = story_of(plain.setting, steps, key)
                self.assertTrue(same(story, self.plain_story(plain, key)))
                many = sum(part is not None for part in story)
                told[many] = told.get(many, 0) + 1
                # None is there without those ahead of it, and they rise.
                self.assertEqual([part is not None for part in story], [True] * many + [False] * (3 - many))
                self.assertEqual(list(story[:many]), sorted(set(story[:many])))
                if many > 1:
                    self.check_late(plain, key, story, rows, late)
        self.assertGreater(min(told[k] for k in range(4)), 40)
        self.assertGreater(min(late.values()), 50)

    def plain_outcomes(self, plain):
        return tuple((k, key, plain.house.book[key]) for k, event in enumerate(plain.events) if event[0] == "asked"
                     for key in event[2])

    def plain_story(self, plain, key):
        tried = [k for k, event in enumerate(plain.events) if event[:2] == ("first", key)]
        decided = [k for k, event in enumerate(plain.events) if event[0] == "asked" and key in event[2]]
        told = [k for k, event in enumerate(plain.events) if event == ("told", key, True)]
        self.assertLessEqual(max(map(len, (tried, decided, told))), 1)
        return tuple(rows[0] if rows else None for rows in (tried, decided, told))

    def check_late(self, plain, key, story, rows, late):
        outcome = [row for row in rows if row[1] == key]
        self.assertEqual([row[0] for row in outcome], [story[1]])
        ticks = plain.steps[story[0]:story[1]].count(TICK)
        is_late = ticks > plain.callers[key[0]][0][key[1]][key[2]][2]
        self.assertEqual(outcome[0][2] == LATE, is_late)
        late[is_late] += 1
        if story[2] is not None:
            self.assertEqual(plain.calls[key][3], outcome[0][2])

    def test_the_book_of_each_state_is_a_book_and_grows(self):
        # [56]
        chance = random.Random(56)
        for _ in range(60):
            plain = made_run(chance, 80, 0.1)
            ahead = ()
            for k in range(0, 81, 5):
                state, _ = run(plain.setting, tuple(plain.steps[:k]))
                cells, book, _ = state[3]
                self.assertTrue(same(lets_book(plain.setting, book), cells))
                self.assertTrue(same(book[:len(ahead)], ahead))
                ahead = book

    def test_keys_of_all(self):
        for key in KEYS:
            self.story((), key, (None, None, None))


if __name__ == "__main__":
    unittest.main()

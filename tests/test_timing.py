import random
import unittest
from fractions import Fraction

from things import (BESIDE, DEEP, HUGE, ODD_THINGS, TIMING, TREE, WIDE, WORK, many_timings, many_trees, same, spoiled,
                    timing_made)

from twicecalls.fractions import fraction_of, plus
from twicecalls.splitting import dues, split
from twicecalls.timing import is_timing, moments, over, slow, took
from twicecalls.trees import need, needs, part_at, places_in


def plain_moments(timing, begin=0, place=()):
    """A dict of begins and ends, done as it happens: what stands behind waits for what is ahead."""
    if timing[0] == "work":
        return {place: (begin, begin + timing[1])}
    told, clock, back_all = {}, begin, [begin]
    for k, (travel, part) in enumerate(zip(timing[1], timing[2])):
        start = (clock if timing[0] == "then" else begin) + travel[0]
        told.update(plain_moments(part, start, (*place, k)))
        clock = told[(*place, k)][1] + travel[1]
        back_all.append(clock)
    told[place] = (begin, max(back_all))
    return told


def travels_of(timing, place=()):
    """All works and travels: (word, place, time)."""
    if timing[0] == "work":
        return [("work", place, timing[1])]
    rows = []
    for k, part in enumerate(timing[2]):
        rows += [("there", (*place, k), timing[1][k][0]), ("back", (*place, k), timing[1][k][1])]
        rows += travels_of(part, (*place, k))
    return rows


def plain_over(tree, timing):
    found = []
    for word, place, time in travels_of(timing):
        bound = part_at(tree, place)[1] if word == "work" else part_at(tree, place[:-1])[1]
        if time > bound:
            found.append((word, place))
    return tuple(sorted(found))


def timing_at(timing, place):
    for k in place:
        timing = timing[2][k]
    return timing


class TestIsTiming(unittest.TestCase):
    def test_timings(self):
        for tree, timing in (*many_timings(), *many_timings(99), (TREE, TIMING), (WORK, ("work", 0)),
                             (WORK, ("work", HUGE)), (("then", 0, (WORK,)), ("then", ((HUGE, 0),), (("work", 9),)))):
            self.assertIs(is_timing(tree, timing), True, timing)
        self.assertIs(is_timing(thing=TIMING, tree=TREE), True)

    def test_deep_and_wide_ones(self):
        tree, timing = WORK, ("work", 1)
        for _ in range(19):
            tree, timing = ("beside", 0, (tree,)), ("beside", ((0, 0),), (timing,))
        self.assertIs(is_timing(tree, timing), True)
        tree, timing = ("then", 1, (WORK,) * 300), ("then", ((1, 1),) * 300, (("work", 1),) * 300)
        self.assertIs(is_timing(tree, timing), True)
        self.assertIs(is_timing(tree, ("then", ((1, 1),) * 300, (("work", 1),) * 299 + (("work", None),))), False)

    def test_one_part_otherwise(self):
        seen = 0
        for thing in spoiled(TIMING):
            seen += 1
            self.assertIs(is_timing(TREE, thing), False, thing)
        self.assertGreater(seen, 200)
        for tree, timing in many_timings()[::5]:
            for thing in spoiled(timing):
                self.assertIs(is_timing(tree, thing), False, thing)

    def test_other_words(self):
        for thing in (("beside", *TIMING[1:]), ("work", *TIMING[1:]), ("", *TIMING[1:]),
                      (*TIMING[:2], (TIMING[2][0], ("then", *TIMING[2][1][1:]), TIMING[2][2])),
                      (*TIMING[:2], (("then", 4), *TIMING[2][1:])), (*TIMING[:2], (("beside", 4), *TIMING[2][1:]))):
            self.assertIs(is_timing(TREE, thing), False, thing)
        for word in ("then", "beside", "there", "Work", "", None, True, 0, ["work"], ("work",)):
            self.assertIs(is_timing(WORK, (word, 4)), False)

    def test_travels(self):
        tree = ("beside", 1, (WORK,))
        self.assertIs(is_timing(tree, ("beside", ((1, 2),), (("work", 5),))), True)
        for travels in (((1,),), ((1, 2, 3),), ((1, 2), (1, 2)), (), ((True, 2),), ((1, False),), ((-1, 2),),
                        ((1, -2),), [(1, 2)], ([1, 2],), (1, 2), ((1, None),), (("1", "2"),), ("ab",), "a", None, 1):
            self.assertIs(is_timing(tree, ("beside", travels, (("work", 5),))), False, travels)
        for parts in ((), (("work", 5),) * 2, [("work", 5)], (["work", 5],), (("work", True),), (("work", -1),),
                      (("work",),), (("work", 5, 5),), (("work", (5,)),), ("work", 5), None):
            self.assertIs(is_timing(tree, ("beside", ((1, 2),), parts)), False, parts)

    def test_of_another_tree(self):
        trees = (WORK, BESIDE, TREE, WIDE, DEEP)
        chance = random.Random(1)
        for tree in trees:
            for other in trees:
                self.assertIs(is_timing(tree, timing_made(chance, other)), tree == other)
        # A TREE is no TIMING of itself, but a work is.
        self.assertIs(is_timing(TREE, TREE), False)
        self.assertIs(is_timing(WORK, WORK), True)

    def test_any_things(self):
        for thing in ODD_THINGS:
            for tree in (WORK, BESIDE, TREE):
                self.assertIs(is_timing(tree, thing), False)


class TestTook(unittest.TestCase):
    def test_each_form(self):
        self.assertTrue(same(took(("work", 0)), 0))
        self.assertTrue(same(took(("work", 7)), 7))
        self.assertTrue(same(took(("then", ((1, 20), (300, 4000)), (("work", 50000), ("work", 600000)))), 654321))
        self.assertTrue(same(took(("beside", ((1, 2), (4, 0)), (("work", 6), ("work", 5)))), 9))
        self.assertTrue(same(took(("beside", ((1, 2), (4, 1)), (("work", 6), ("work", 5)))), 10))
        self.assertTrue(same(took(("beside", ((0, 0),), (("work", 0),))), 0))
        self.assertTrue(same(took(TIMING), 18))
        self.assertTrue(same(took(timing=TIMING[2][1]), 8))

    def test_against_what_happens(self):
        for _, timing in many_timings():
            self.assertEqual(took(timing), plain_moments(timing)[()][1])

    def test_great_ones(self):
        timing = ("then", ((10 ** 6, 10 ** 6),) * 11, (("work", 10 ** 6),) * 11)
        self.assertEqual(took(timing), 33 * 10 ** 6)


class TestMoments(unittest.TestCase):
    def test_a_work(self):
        self.assertTrue(same(moments(("work", 4)), (((), 0, 4),)))
        self.assertTrue(same(moments(("work", 4), 3), (((), 3, 7),)))
        self.assertTrue(same(moments(("work", 0), 10 ** 9), (((), 10 ** 9, 10 ** 9),)))

    def test_then_and_beside(self):
        self.assertTrue(same(moments(("then", ((1, 20), (300, 4000)), (("work", 5), ("work", 6)))),
                             (((), 0, 4332), ((0,), 1, 6), ((1,), 326, 332))))
        self.assertTrue(same(moments(("beside", ((1, 20), (300, 4000)), (("work", 5), ("work", 6))), 2),
                             (((), 2, 4308), ((0,), 3, 8), ((1,), 302, 308))))

    def test_all_places(self):
        told = (((), 0, 18), ((0,), 1, 5), ((1,), 9, 17), ((1, 0), 10, 13), ((1, 1), 9, 15), ((2,), 17, 17))
        self.assertTrue(same(moments(TIMING), told))
        self.assertTrue(same(moments(TIMING, 0), told))
        self.assertTrue(same(moments(TIMING, 100), tuple((at, b + 100, e + 100) for at, b, e in told)))
        self.assertTrue(same(moments(timing=TIMING), told))
        self.assertTrue(same(moments(begin=7, timing=("work", 1)), (((), 7, 8),)))

    def test_against_what_happens(self):
        for k, (tree, timing) in enumerate(many_timings()):
            told = moments(timing, k)
            self.assertEqual(told, tuple((place, *both) for place, both in sorted(plain_moments(timing, k).items())))
            self.assertEqual(tuple(place for place, _, _ in told), places_in(tree))
            for place, begin, end in told:
                self.assertEqual(end - begin, took(timing_at(timing, place)))


class TestOver(unittest.TestCase):
    def test_none(self):
        self.assertTrue(same(over(WORK, ("work", 5)), ()))
        self.assertTrue(same(over(WORK, ("work", 0)), ()))
        self.assertTrue(same(over(BESIDE, ("beside", ((1, 1), (1, 1)), (("work", 3), ("work", 7)))), ()))

    def test_each_alone(self):
        tree = ("then", 2, (("work", 3),))
        for timing, told in ((("then", ((2, 2),), (("work", 4),)), (("work", (0,)),)),
                             (("then", ((3, 2),), (("work", 3),)), (("there", (0,)),)),
                             (("then", ((2, 3),), (("work", 3),)), (("back", (0,)),)),
                             (("then", ((3, 3),), (("work", 4),)), (("back", (0,)), ("there", (0,)), ("work", (0,))))):
            self.assertTrue(same(over(tree, timing), told))
        self.assertTrue(same(over(WORK, ("work", 6)), (("work", ()),)))
        self.assertTrue(same(over(TREE, TIMING), (("back", (1, 1)),)))

    def test_all_together_rising(self):
        timing = ("then", ((3, 2), (2, 3), (9, 9)),
                  (("work", 6), ("beside", ((2, 1), (1, 2)), (("work", 4), ("work", 8))), ("work", 1)))
        told = (("back", (1,)), ("back", (1, 1)), ("back", (2,)), ("there", (0,)), ("there", (1, 0)), ("there", (2,)),
                ("work", (0,)), ("work", (1, 0)), ("work", (1, 1)), ("work", (2,)))
        self.assertTrue(same(over(TREE, timing), told))
        self.assertTrue(same(over(timing=timing, tree=TREE), told))

    def test_against_a_plain_one(self):
        seen = 0
        for tree, timing in many_timings():
            self.assertTrue(same(over(tree, timing), plain_over(tree, timing)))
            seen += len(over(tree, timing)) > 1
        self.assertGreater(seen, 100)

    def test_where_there_is_none_no_place_took_more_than_its_need(self):
        seen = 0
        for tree, timing in many_timings(1):
            if not over(tree, timing):
                seen += 1
                for place, least in needs(tree):
                    self.assertLessEqual(took(timing_at(timing, place)), least)
        self.assertGreater(seen, 50)


class TestSlow(unittest.TestCase):
    def amounts(self, amount):
        return (((), (18, 1)), ((0,), amount), ((1,), (8, 1)), ((1, 0), (3, 1)), ((1, 1), (6, 1)), ((2,), (0, 1)))

    def test_just_at_above_and_below(self):
        for amount, told in (((4, 1), ()), ((5, 1), ()), ((3, 1), ((0,),)), ((7, 2), ((0,),)), ((9, 2), ()),
                             ((4 * 10 ** 99 - 1, 10 ** 99), ((0,),)), ((4 * 10 ** 99 + 1, 10 ** 99), ())):
            self.assertTrue(same(slow(TIMING, self.amounts(amount)), told), amount)
        self.assertTrue(same(slow(("work", 5), (((), (5, 1)),)), ()))
        self.assertTrue(same(slow(("work", 5), (((), (14, 3)),)), ((),)))
        self.assertTrue(same(slow(("work", 5), (((), (16, 3)),)), ()))

    def test_all_rising(self):
        amounts = tuple((place, (1, 3)) for place in places_in(TREE))
        told = ((), (0,), (1,), (1, 0), (1, 1))
        self.assertTrue(same(slow(TIMING, amounts), told))
        self.assertTrue(same(slow(amounts=amounts, timing=TIMING), told))
        many = ("beside", ((0, 0),) * 11, (("work", 2),) * 11)
        self.assertEqual(slow(many, tuple((place, (1, 1)) for place in places_in(WIDE))), places_in(WIDE))

    def test_slow_though_all_of_it_is_in_time(self):
        # The first work TOOK 8 of the 7 that it has; the others were quick.
        amounts = split(TREE, 30, (((0,), 1), ((1,), 1), ((2,), 0)))
        self.assertEqual(amounts[1], ((0,), (7, 1)))
        timing = ("then", ((0, 0),) * 3, (("work", 8), ("beside", ((0, 0),) * 2, (("work", 0),) * 2), ("work", 0)))
        self.assertTrue(same(slow(timing, amounts), ((0,),)))

    def test_against_a_plain_one(self):
        chance = random.Random(33)
        for tree, timing in many_timings():
            amounts = tuple((place, fraction_of(chance.randrange(40), chance.randrange(1, 5)))
                            for place in places_in(tree))
            told = tuple(place for place, amount in amounts if took(timing_at(timing, place)) > Fraction(*amount))
            self.assertTrue(same(slow(timing, amounts), told))

    def test_where_all_of_it_is_slow_a_work_is_or_a_travel_is_over(self):
        seen = 0
        for tree, timing in many_timings():
            amounts = split(tree, need(tree) + 1)
            places = slow(timing, amounts)
            if () in places:
                seen += 1
                works = [place for place in places if part_at(tree, place)[0] == "work"]
                self.assertTrue(works or [word for word, _ in over(tree, timing) if word != "work"])
        self.assertGreater(seen, 30)

    def test_else_each_ends_no_later_than_it_is_due(self):
        seen, chance = 0, random.Random(29)
        for tree in many_trees():
            amounts = split(tree, need(tree) + chance.randrange(9))
            due_at = dict(dues(tree, amounts))
            for _ in range(20):
                timing = timing_made(chance, tree, 1)
                works = [place for place in slow(timing, amounts) if part_at(tree, place)[0] == "work"]
                if works or [word for word, _ in over(tree, timing) if word != "work"]:
                    continue
                seen += 1
                for place, _, end in moments(timing):
                    self.assertLessEqual(end, Fraction(*due_at[place]))
        self.assertGreater(seen, 500)

    def test_amounts_of_any_figures(self):
        # [36]: what was reckoned here is handed in again.
        weights = (((0,), 10 ** 50), ((1,), 3), ((2,), 1))
        amounts = split(TREE, 10 ** 8, weights)
        self.assertEqual(slow(TIMING, amounts), ())
        more = tuple((place, plus(amount, (1, 10 ** 60 + 7))) for place, amount in amounts)
        self.assertEqual(slow(("work", 10 ** 8), (((), more[0][1]),)), ())
        self.assertEqual(slow(("work", 10 ** 8 + 1), (((), more[0][1]),)), ((),))


if __name__ == "__main__":
    unittest.main()

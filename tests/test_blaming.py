import random
import unittest

from things import BESIDE, DEEP, HUGE, ODD_THINGS, TREE, WORK, many_timings, same, spoiled

from twicecalls.blaming import blame, lets_blame
from twicecalls.errors import CallError, NoPaper
from twicecalls.splitting import split
from twicecalls.timing import slow, took
from twicecalls.trees import need, part_at, places_in

# TREE NEEDS 26, its parts 5, 9 (3 and 7 of which) and 0. This one TOOK 14, 13 and 6: its first work is over its
# bound, so is the travel back of its last part, and within the second one a work and a travel there.
LATE = ("then", ((2, 2), (2, 1), (2, 3)), (("work", 10), ("beside", ((2, 1), (0, 1)), (("work", 7), ("work", 8))),
                                           ("work", 1)))
# All of it TOOK just its NEED, though a work was over its bound.
JUST = ("then", ((2, 2),) * 3, (("work", 6), ("beside", ((1, 1),) * 2, (("work", 0), ("work", 6))), ("work", 0)))


def timing_at(timing, place):
    for k in place:
        timing = timing[2][k]
    return timing


def words_at(tree, timing, place):
    """All words that are so of a way that ends at a PLACE."""
    part, time = part_at(tree, place), timing_at(timing, place)
    if part[0] == "work":
        return ["work"]
    return [(word, k) for k in range(len(part[2])) for at, word in enumerate(("there", "back"))
            if time[1][k][at] > part[1]]


def all_blames(tree, timing):
    """All BLAMES there are, sought one by one among all PLACES."""
    late = {place for place in places_in(tree) if took(timing_at(timing, place)) > need(part_at(tree, place))}
    found = []
    for place in places_in(tree):
        way = tuple(place[:k] for k in range(len(place) + 1))
        if set(way) <= late:
            found += [(way, word) for word in words_at(tree, timing, place)]
    return found


class TestBlame(unittest.TestCase):
    def test_none(self):
        for tree, timing in ((WORK, ("work", 5)), (WORK, ("work", 0)), (TREE, JUST),
                             (BESIDE, ("beside", ((3, 0), (1, 1)), (("work", 4), ("work", 7))))):
            self.assertIsNone(blame(tree, timing))
        self.assertEqual(took(JUST), need(TREE))
        self.assertIsNone(blame(timing=JUST, tree=TREE))

    def test_one_alone(self):
        self.assertTrue(same(blame(WORK, ("work", 6)), (((),), "work")))
        one = ("then", 2, (WORK, WORK))
        for travels, works, told in ((((2, 2), (2, 3)), (5, 5), (((),), ("back", 1))),
                                     (((2, 2), (3, 2)), (5, 5), (((),), ("there", 1))),
                                     (((2, 2), (2, 2)), (5, 6), (((), (1,)), "work")),
                                     (((2, 2), (2, 2)), (6, 5), (((), (0,)), "work"))):
            timing = ("then", travels, tuple(("work", time) for time in works))
            self.assertTrue(same(blame(one, timing), told))
            self.assertTrue(same(blame(timing=timing, tree=one), told))

    def test_far_within(self):
        inner = ("then", ((3, 3), (3, 3)), (("work", 4), ("work", 6)))
        timing = ("then", ((1, 1),), (("beside", ((2, 2),), (inner,)),))
        self.assertTrue(same(blame(DEEP, timing), (((), (0,), (0, 0), (0, 0, 1)), "work")))
        inner = ("then", ((3, 3), (3, 4)), (("work", 4), ("work", 5)))
        timing = ("then", ((1, 1),), (("beside", ((2, 2),), (inner,)),))
        self.assertTrue(same(blame(DEEP, timing), (((), (0,), (0, 0)), ("back", 1))))

    def test_any_of_those_that_there_are(self):
        seen = 0
        for tree, timing in (*many_timings(), *many_timings(1), (TREE, LATE)):
            all_told = all_blames(tree, timing)
            self.assertEqual(bool(all_told), took(timing) > need(tree))
            told = blame(tree, timing)
            if all_told:
                seen += 1
                self.assertTrue(any(same(told, one) for one in all_told), told)
            else:
                self.assertIsNone(told)
        self.assertGreater(seen, 100)

    def test_there_is_one_where_more_was_taken_than_was_split(self):
        for tree, timing in many_timings():
            amounts = split(tree, need(tree) + 2)
            if () in slow(timing, amounts):
                self.assertIs(lets_blame(tree, timing, blame(tree, timing)), True)


class TestLetsBlame(unittest.TestCase):
    def refused(self, word, at, thing, tree=TREE, timing=LATE):
        with self.assertRaises(NoPaper) as caught:
            lets_blame(tree, timing, thing)
        self.assertIsInstance(caught.exception, CallError)
        self.assertTrue(same((caught.exception.word, caught.exception.at), (word, at)), (vars(caught.exception), thing))

    def test_right_ones(self):
        for thing in ((((), (0,)), "work"), (((),), ("back", 2)), (((), (1,), (1, 0)), "work"),
                      (((), (1,), (1, 1)), "work"), (((), (1,)), ("there", 0)), (((), (2,)), "work")):
            self.assertIs(lets_blame(TREE, LATE, thing), True, thing)
        self.assertIs(lets_blame(WORK, ("work", 6), (((),), "work")), True)
        self.assertIs(lets_blame(thing=(((),), ("back", 2)), timing=LATE, tree=TREE), True)

    def test_what_is_told_is_let_by_and_all_others(self):
        for tree, timing in many_timings():
            for thing in all_blames(tree, timing):
                self.assertIs(lets_blame(tree, timing, thing), True)
            told = blame(tree, timing)
            if told is not None:
                self.assertIs(lets_blame(tree, timing, told), True)

    def test_shape(self):
        for thing in ((), ((),), ((), "work"), (((),),), (((),), "work", 0), [((),), "work"], ([()], "work"),
                      (([],), "work"), (((), [0]), "work"), (((), (True,)), "work"), (((), (-1,)), "work"),
                      (((), (None,)), "work"), (((), ("0",)), "work"), (((), ((0,),)), "work"), (((), None), "work"),
                      (((), 0), "work"), ("ab", "work"), (None, "work"), "ab", "work", None, True, 0):
            self.refused("shape", -1, thing)
        for thing in ODD_THINGS:
            self.refused("shape", -1, thing)

    def test_way(self):
        self.refused("way", 0, (((0,),), "work"))
        self.refused("way", 0, (((0,), ()), "work"))
        self.refused("way", 0, (((HUGE,), (0,)), "work"))
        self.refused("way", 1, (((), ()), "work"))
        self.refused("way", 1, (((), (3,)), "work"))
        self.refused("way", 1, (((), (HUGE,)), "work"))
        self.refused("way", 1, (((), (1, 0)), "work"))
        self.refused("way", 2, (((), (1,), (1,)), "work"))
        self.refused("way", 2, (((), (1,), ()), "work"))
        self.refused("way", 2, (((), (1,), (0, 0)), "work"))
        self.refused("way", 2, (((), (1,), (0, 0)), "work"))
        self.refused("way", 2, (((), (1,), (1, 2)), "work"))
        self.refused("way", 2, (((), (1,), (0,)), "work"))
        self.refused("way", 2, (((), (1,), (1, 0, 0)), "work"))
        # Behind a work there is nothing.
        self.refused("way", 2, (((), (0,), (0, 0)), "work"))
        self.refused("way", 3, (((), (1,), (1, 0), (1, 0, 0)), "work"))
        self.refused("way", 1, (((), (0,)), "work"), WORK, ("work", 6))

    def test_took(self):
        self.refused("took", 0, (((),), "work"), WORK, ("work", 5))
        self.refused("took", 0, (((), (0,)), "work"), TREE, JUST)
        timing = ("then", ((2, 2),) * 3, (("work", 99), ("beside", ((1, 1),) * 2, (("work", 4), ("work", 7))),
                                          ("work", 0)))
        self.refused("took", 1, (((), (1,), (1, 0)), "work"), TREE, timing)
        self.refused("took", 1, (((), (2,)), "work"), TREE, timing)
        self.refused("took", 2, (((), (1,), (1, 1)), "work"), TREE,
                     ("then", ((2, 2),) * 3, (("work", 99), ("beside", ((1, 1),) * 2, (("work", 8), ("work", 7))),
                                              ("work", 0))))

    def test_word(self):
        for word in ("there", "back", "then", "", "Work", "work ", ("work",), ("work", 0), ["work"], None, True, 0,
                     ("there", 0), ("back", 2), ()):
            self.refused("word", -1, (((), (0,)), word))
        for word in ("work", ("back", 0), ("there", 2), ("there", 3), ("back", 3), ("back", HUGE), ("back", -1),
                     ("Back", 2), ("back", 2, 2), ("back",), ["back", 2], ("back", "2"), ("back", None),
                     ("back", (2,)), (2, "back"), ("work", 2), "back", "back 2", None, True, 2, (), []):
            self.refused("word", -1, (((),), word))
        for word in ODD_THINGS:
            self.refused("word", -1, (((),), word))
            self.refused("word", -1, (((), (0,)), word))

    def test_a_truth_is_no_number_of_a_part(self):
        tree, timing = ("beside", 0, (WORK, WORK)), ("beside", ((1, 0), (0, 1)), (("work", 5), ("work", 5)))
        self.assertIs(lets_blame(tree, timing, (((),), ("there", 0))), True)
        self.assertIs(lets_blame(tree, timing, (((),), ("back", 1))), True)
        self.refused("word", -1, (((),), ("there", False)), tree, timing)
        self.refused("word", -1, (((),), ("back", True)), tree, timing)
        self.refused("word", -1, (((),), ("there", 1)), tree, timing)
        self.refused("word", -1, (((),), ("back", 0)), tree, timing)

    def test_a_travel_just_in_time(self):
        tree, timing = ("then", 2, (WORK, WORK)), ("then", ((2, 2), (2, 2)), (("work", 6), ("work", 5)))
        for k in (0, 1):
            self.refused("word", -1, (((),), ("there", k)), tree, timing)
            self.refused("word", -1, (((),), ("back", k)), tree, timing)

    def test_the_first_told_goes(self):
        self.refused("shape", -1, (((0,), [0]), "nothing"), TREE, JUST)
        self.refused("way", 0, (((0,),), "nothing"), TREE, JUST)
        self.refused("took", 0, (((), (5,)), "nothing"), TREE, JUST)
        self.refused("way", 1, (((), (5,)), "nothing"))
        self.refused("way", 1, (((), (1, 0), (1, 0)), "nothing"))
        timing = ("then", ((2, 2),) * 3, (("work", 99), ("beside", ((1, 1),) * 2, (("work", 4), ("work", 7))),
                                          ("work", 0)))
        self.refused("took", 1, (((), (1,), (1, 5)), "nothing"), TREE, timing)
        self.refused("took", 1, (((), (1,)), "nothing"), TREE, timing)

    def test_one_part_otherwise(self):
        for thing in spoiled((((), (1,), (1, 0)), "work")):
            with self.assertRaises(NoPaper):
                lets_blame(TREE, LATE, thing)
        for thing in spoiled((((), (1,)), ("there", 0))):
            with self.assertRaises(NoPaper):
                lets_blame(TREE, LATE, thing)

    def test_none_but_those_that_there_are(self):
        chance = random.Random(34)
        for tree, timing in many_timings():
            right, places = all_blames(tree, timing), places_in(tree)
            for _ in range(20):
                place = chance.choice(places)
                way = [place[:k] for k in range(len(place) + 1)]
                if chance.random() < 0.3:
                    way[chance.randrange(len(way))] = chance.choice(places)
                thing = (tuple(way), chance.choice(("work", ("there", chance.randrange(3)), ("back", 0))))
                if thing in right:
                    self.assertIs(lets_blame(tree, timing, thing), True)
                else:
                    self.assertRaises(NoPaper, lets_blame, tree, timing, thing)


if __name__ == "__main__":
    unittest.main()

import random
import unittest
from fractions import Fraction

from things import BESIDE, DEEP, TREE, WIDE, WORK, many_trees, same

from twicecalls.errors import NoSetting
from twicecalls.fractions import is_less
from twicecalls.splitchecker import lets_split
from twicecalls.splitting import dues, split
from twicecalls.trees import need, part_at, places_in

THEN = ("then", 1, (("work", 1), ("work", 3), ("work", 0)))
NOUGHT = ("then", 2, (("work", 0), ("work", 0), ("work", 0)))


class TestSplit(unittest.TestCase):
    def test_just_the_need(self):
        self.assertTrue(same(split(WORK, 5), (((), (5, 1)),)))
        self.assertTrue(same(split(TREE, 26), (((), (26, 1)), ((0,), (5, 1)), ((1,), (9, 1)), ((1, 0), (7, 1)),
                                               ((1, 1), (7, 1)), ((2,), (0, 1)))))
        self.assertEqual(split(NOUGHT, 12), (((), (12, 1)), ((0,), (0, 1)), ((1,), (0, 1)), ((2,), (0, 1))))

    def test_more_by_needs(self):
        # 4 above 26, by the NEEDS 5, 9 and 0 of 14.
        self.assertTrue(same(split(TREE, 30), (((), (30, 1)), ((0,), (45, 7)), ((1,), (81, 7)), ((1, 0), (67, 7)),
                                               ((1, 1), (67, 7)), ((2,), (0, 1)))))
        self.assertEqual(split(WORK, 10 ** 8), (((), (10 ** 8, 1)),))
        self.assertEqual(split(BESIDE, 20), (((), (20, 1)), ((0,), (18, 1)), ((1,), (18, 1))))

    def test_needs_of_nought_have_equal_shares(self):
        self.assertEqual(split(NOUGHT, 13), (((), (13, 1)), ((0,), (1, 3)), ((1,), (1, 3)), ((2,), (1, 3))))

    def test_one_less_is_refused(self):
        for tree in (WORK, TREE, BESIDE, WIDE, DEEP, NOUGHT):
            for whole in (need(tree) - 1, 0):
                with self.assertRaises(NoSetting) as caught:
                    split(tree, whole)
                self.assertEqual(caught.exception.word, "whole")
            self.assertEqual(split(tree, need(tree))[0], ((), (need(tree), 1)))
        self.assertEqual(split(("work", 0), 0), (((), (0, 1)),))

    def test_weights_left_out(self):
        told = split(THEN, 17)
        self.assertEqual(told, (((), (17, 1)), ((0,), (11, 4)), ((1,), (33, 4)), ((2,), (0, 1))))
        for weights in (None, ()):
            self.assertEqual(split(THEN, 17, weights), told)

    def test_weights_of_some_places(self):
        self.assertEqual(split(THEN, 17, (((2,), 3),)),
                         (((), (17, 1)), ((0,), (2, 1)), ((1,), (6, 1)), ((2,), (3, 1))))
        self.assertEqual(split(THEN, 17, (((0,), 2), ((2,), 2))),
                         (((), (17, 1)), ((0,), (3, 1)), ((1,), (6, 1)), ((2,), (2, 1))))
        self.assertEqual(split(THEN, 17, (((0,), 0), ((1,), 5))),
                         (((), (17, 1)), ((0,), (1, 1)), ((1,), (10, 1)), ((2,), (0, 1))))

    def test_weights_all_nought(self):
        for weights in ((((0,), 0), ((1,), 0), ((2,), 0)), (((0,), 0), ((1,), 0))):
            self.assertEqual(split(THEN, 16, weights),
                             (((), (16, 1)), ((0,), (3, 1)), ((1,), (5, 1)), ((2,), (2, 1))))

    def test_weights_that_are_let_be(self):
        told = split(TREE, 30)
        for weights in ((((), 9),), (((1, 0), 5), ((1, 1), 0)), (((), 0), ((1, 1), 9))):
            self.assertEqual(split(TREE, 30, weights), told)

    def test_weights_within(self):
        # DEEP gives its parts all above; only the two works share by their WEIGHTS.
        self.assertEqual(split(DEEP, 30, (((0, 0, 0), 2), ((0, 0, 1), 1)))[3:],
                         (((0, 0, 0), (6, 1)), ((0, 0, 1), (6, 1))))

    def test_against_python(self):
        chance = random.Random(28)
        for tree in many_trees():
            for _ in range(3):
                whole = need(tree) + chance.randrange(50)
                weights = tuple((place, chance.randrange(4)) for place in places_in(tree) if chance.random() < 0.6)
                told = {}
                shared(tree, (), Fraction(whole), dict(weights), told)
                amounts = split(tree, whole, weights)
                self.assertEqual(amounts, tuple((place, (told[place].numerator, told[place].denominator))
                                                for place in sorted(told)))
                self.assertIs(lets_split(tree, whole, amounts), True)

    def test_by_names(self):
        self.assertEqual(split(weights=(((2,), 3),), whole=17, tree=THEN), split(THEN, 17, (((2,), 3),)))


def shared(tree, place, amount, weights, told):
    """What [28] says, by Python's own fractions, from the top down."""
    told[place] = amount
    if tree[0] == "work":
        return
    parts = [((*place, k), part) for k, part in enumerate(tree[2])]
    worth = [weights.get(at, need(part)) for at, part in parts]
    for k, (at, part) in enumerate(parts):
        if tree[0] == "beside":
            shared(part, at, amount - 2 * tree[1], weights, told)
            continue
        share = Fraction(worth[k], sum(worth)) if sum(worth) else Fraction(1, len(parts))
        shared(part, at, need(part) + (amount - need(tree)) * share, weights, told)


class TestDues(unittest.TestCase):
    def test_each_form(self):
        self.assertTrue(same(dues(WORK, (((), (7, 1)),)), (((), (7, 1)),)))
        self.assertTrue(same(dues(BESIDE, (((), (20, 1)), ((0,), (4, 1)), ((1,), (18, 1)))),
                             (((), (20, 1)), ((0,), (19, 1)), ((1,), (19, 1)))))
        # The last part is DUE a travel ahead; each one ahead of it by the AMOUNT behind and travel twice.
        self.assertTrue(same(dues(THEN, (((), (17, 1)), ((0,), (2, 1)), ((1,), (11, 2)), ((2,), (3, 1)))),
                             (((), (17, 1)), ((0,), (7, 2)), ((1,), (11, 1)), ((2,), (16, 1)))))

    def test_within(self):
        amounts = (((), (30, 1)), ((0,), (7, 1)), ((1,), (10, 1)), ((1, 0), (8, 1)), ((1, 1), (15, 2)), ((2,), (1, 1)))
        self.assertTrue(same(dues(TREE, amounts), (((), (30, 1)), ((0,), (9, 1)), ((1,), (23, 1)), ((1, 0), (22, 1)),
                                                   ((1, 1), (22, 1)), ((2,), (28, 1)))))

    def test_against_python(self):
        for tree in many_trees():
            amounts = split(tree, need(tree) + 5)
            told = {}
            due(tree, (), dict(amounts), Fraction(*amounts[0][1]), told)
            self.assertEqual(dues(tree, amounts), tuple((place, (told[place].numerator, told[place].denominator))
                                                        for place in sorted(told)))

    def test_no_less_than_the_amount(self):
        for tree in many_trees():
            amounts = split(tree, need(tree) + 3)
            moments = dues(tree, amounts)
            for (place, amount), (at, moment) in zip(amounts, moments):
                self.assertEqual(place, at)
                self.assertIs(is_less(moment, amount), False)
                part_at(tree, place)

    def test_by_names(self):
        self.assertEqual(dues(amounts=(((), (7, 1)),), tree=WORK), (((), (7, 1)),))


def due(tree, place, amounts, moment, told):
    """What [29] says, word by word."""
    told[place] = moment
    parts = () if tree[0] == "work" else tree[2]
    for k, part in enumerate(parts):
        inner = moment - tree[1]
        if tree[0] == "then":
            inner -= sum(Fraction(*amounts[(*place, j)]) + 2 * tree[1] for j in range(k + 1, len(parts)))
        due(part, (*place, k), amounts, inner, told)


if __name__ == "__main__":
    unittest.main()

import unittest

from things import BESIDE, DEEP, ODD_THINGS, TREE, WIDE, WORK, many_trees

from twicecalls.errors import CallError, NoPaper
from twicecalls.fractions import plus
from twicecalls.splitchecker import lets_split
from twicecalls.splitting import split
from twicecalls.trees import need

# TREE needs 26 of 30: 5, 9 (3 beside 7, travel 1), 0 and 12 of travel. The parts of () have just 30 with that.
AMOUNTS = (((), (30, 1)), ((0,), (7, 1)), ((1,), (10, 1)), ((1, 0), (8, 1)), ((1, 1), (15, 2)), ((2,), (1, 1)))


def otherwise(place, amount):
    return tuple((at, amount if at == place else own) for at, own in AMOUNTS)


class TestLetsSplit(unittest.TestCase):
    def refused(self, word, at, thing, tree=TREE, whole=30):
        with self.assertRaises(NoPaper) as caught:
            lets_split(tree, whole, thing)
        self.assertIsInstance(caught.exception, CallError)
        self.assertEqual((caught.exception.word, caught.exception.at), (word, at), thing)

    def test_right_ones(self):
        self.assertIs(lets_split(TREE, 30, AMOUNTS), True)
        self.assertIs(lets_split(WORK, 5, (((), (5, 1)),)), True)
        self.assertIs(lets_split(WORK, 10 ** 8, (((), (10 ** 8, 1)),)), True)
        self.assertIs(lets_split(thing=AMOUNTS, whole=30, tree=TREE), True)

    def test_just_at_the_edge(self):
        # Each of its NEED alone, or of as much as its own PLACE has for it.
        self.assertIs(lets_split(TREE, 30, otherwise((0,), (5, 1))), True)
        self.assertIs(lets_split(TREE, 30, otherwise((1, 0), (3, 1))), True)
        self.assertIs(lets_split(TREE, 30, otherwise((1, 1), (8, 1))), True)
        self.assertIs(lets_split(TREE, 30, otherwise((2,), (0, 1))), True)

    def test_shape(self):
        for thing in (list(AMOUNTS), AMOUNTS[:-1] + (list(AMOUNTS[-1]),), AMOUNTS[:-1] + (([2], (1, 1)),),
                      AMOUNTS[:-1] + (((2,), [1, 1]),), AMOUNTS[:-1] + (((2,), (2, 2)),),
                      AMOUNTS[:-1] + (((2,), (1, 0)),), AMOUNTS[:-1] + (((2,), 1),), AMOUNTS[:-1] + (((2,),),),
                      AMOUNTS[:-1] + (((2,), (1, 1), 0),), AMOUNTS[:-1] + (((-2,), (1, 1)),),
                      AMOUNTS[:-1] + (((True,), (1, 1)),), AMOUNTS[:-1] + (((2,), (True, 1)),),
                      AMOUNTS[:-1] + (((2,), (1, True)),), AMOUNTS[:-1] + (((2,), (-1, 1)),),
                      AMOUNTS + (None,), AMOUNTS + ((),), AMOUNTS + ("ab",), AMOUNTS[0], None, True, 30, "amounts"):
            self.refused("shape", -1, thing)
        for thing in ODD_THINGS:
            if not isinstance(thing, tuple) or thing:
                self.refused("shape", -1, thing)

    def test_places(self):
        for thing in ((), AMOUNTS[1:], AMOUNTS[:-1], AMOUNTS + AMOUNTS[-1:], AMOUNTS[::-1],
                      AMOUNTS + (((3,), (0, 1)),), AMOUNTS[:3] + AMOUNTS[4:], AMOUNTS[:1] + AMOUNTS,
                      AMOUNTS[:1] + AMOUNTS[2:3] + AMOUNTS[1:2] + AMOUNTS[3:]):
            self.refused("places", -1, thing)

    def test_whole(self):
        for amount in ((29, 1), (31, 1), (61, 2), (0, 1)):
            self.refused("whole", -1, otherwise((), amount))
        self.refused("whole", -1, AMOUNTS, whole=26)
        self.refused("whole", -1, (((), (4, 1)),), WORK, 5)

    def test_need(self):
        self.refused("need", (0,), otherwise((0,), (49, 10)))
        self.refused("need", (1,), otherwise((1,), (89, 10)))
        self.refused("need", (1, 0), otherwise((1, 0), (2, 1)))
        self.refused("need", (1, 1), otherwise((1, 1), (10 ** 9 * 7 - 1, 10 ** 9)))
        self.refused("need", (), (((), (4, 1)),), WORK, 4)

    def test_sum(self):
        self.refused("sum", (), otherwise((0,), (10 ** 9 * 7 + 1, 10 ** 9)))
        self.refused("sum", (), otherwise((2,), (2, 1)))
        self.refused("sum", (), otherwise((1,), (21, 2)))
        self.refused("sum", (1,), otherwise((1, 0), (17, 2)))
        self.refused("sum", (1,), otherwise((1, 1), (9, 1)))

    def test_the_first_told_goes(self):
        lists = AMOUNTS[:-1] + (((2,), [1, 1]),)
        self.refused("shape", -1, lists[1:], whole=9)
        self.refused("places", -1, AMOUNTS[1:], whole=9)
        self.refused("whole", -1, otherwise((0,), (0, 1)), whole=9)
        self.refused("need", (), otherwise((), (9, 1)), whole=9)
        self.refused("sum", (), otherwise((1,), (100, 1)))
        self.refused("sum", (), tuple((at, (0, 1) if at == (1, 0) else own) for at, own in otherwise((2,), (9, 1))))
        both = tuple((at, {(0,): (4, 1), (1, 0): (99, 1)}.get(at, own)) for at, own in AMOUNTS)
        self.refused("need", (0,), both)
        both = tuple((at, {(1,): (8, 1), (1, 0): (99, 1)}.get(at, own)) for at, own in AMOUNTS)
        self.refused("need", (1,), both)
        both = tuple((at, {(1, 0): (9, 1), (1, 1): (1, 1)}.get(at, own)) for at, own in AMOUNTS)
        self.refused("sum", (1,), both)

    def test_other_trees(self):
        for tree in (WORK, BESIDE, WIDE, DEEP):
            whole = need(tree) + 3
            amounts = split(tree, whole)
            self.assertIs(lets_split(tree, whole, amounts), True)
            self.refused("whole", -1, amounts, tree, whole + 1)
            if tree != WORK:
                self.refused("places", -1, amounts, TREE, whole)

    def test_what_is_split_is_let_by_and_nothing_more_than_it(self):
        for tree in many_trees():
            whole = need(tree) + 7
            amounts = split(tree, whole)
            self.assertIs(lets_split(tree, whole, amounts), True)
            # SPLIT gives all: a bit more for any part is more than its own PLACE has.
            for k in range(1, len(amounts)):
                place, amount = amounts[k]
                more = amounts[:k] + ((place, plus(amount, (1, 1000))),) + amounts[k + 1:]
                self.refused("sum", place[:-1], more, tree, whole)


if __name__ == "__main__":
    unittest.main()

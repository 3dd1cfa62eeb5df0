import unittest

from things import BESIDE, DEEP, HUGE, ODD_THINGS, TREE, WIDE, WORK, many_trees, nested, same

from twicecalls.errors import NoKey
from twicecalls.trees import is_tree, need, needs, part_at, places_in


class TestIsTree(unittest.TestCase):
    def test_trees(self):
        for thing in (*many_trees(), ("work", 0), ("work", HUGE), ("then", HUGE, (WORK,)), ("beside", 0, (WORK,) * 99)):
            self.assertIs(is_tree(thing), True, thing)
        thing = WORK
        for _ in range(9):
            thing = ("then", 0, (thing,))
        self.assertIs(is_tree(thing), True)
        self.assertIs(is_tree(thing=TREE), True)

    def test_no_trees(self):
        for thing in (("work",), ("work", -1), ("work", True), ("work", False), ("work", None), ("work", "5"),
                      ("work", 5, ()), ("work", 5, (WORK,)), ["work", 5], ("Work", 5), ("", 5), ("work", (5,)),
                      ("then", 2, ()), ("beside", 2, ()), ("then", 2), ("beside", 2), ("then", 2, (WORK,), 0),
                      ("then", -1, (WORK,)), ("then", True, (WORK,)), ("then", None, (WORK,)), ("then", 2, [WORK]),
                      ("then", 2, WORK), ("then", 2, "ab"), ("then", 2, (WORK, None)), ("then", 2, (["work", 5],)),
                      ["then", 2, (WORK,)], ("Then", 2, (WORK,)), (None, 2, (WORK,)), (["then"], 2, (WORK,)),
                      ("then", 2, None), ("then", 2, 1), ("beside", 1, (WORK, ("then", 1, ()))),
                      ("beside", 1, (("then", 1, (("work", True),)),)), (WORK,), (1, 2), (True, 2, (WORK,)),
                      ("thenbeside", 2, (WORK,)), ("the", 2, (WORK,)), "work", "thenbeside"):
            self.assertIs(is_tree(thing), False, thing)

    def test_any_things(self):
        for thing in (*ODD_THINGS, ("then", 1, (nested(17),)), ("then", 1, nested(18, list))):
            self.assertIs(is_tree(thing), False)


class TestPlaces(unittest.TestCase):
    def refused(self, tree, place):
        with self.assertRaises(NoKey) as caught:
            part_at(tree, place)
        self.assertIs(caught.exception.key, place)

    def test_places(self):
        self.assertTrue(same(places_in(WORK), ((),)))
        self.assertTrue(same(places_in(TREE), ((), (0,), (1,), (1, 0), (1, 1), (2,))))
        self.assertTrue(same(places_in(DEEP), ((), (0,), (0, 0), (0, 0, 0), (0, 0, 1))))
        self.assertEqual(places_in(WIDE), ((), *((k,) for k in range(11))))

    def test_rising(self):
        for tree in many_trees():
            self.assertEqual(list(places_in(tree)), sorted(set(places_in(tree))))

    def test_parts(self):
        self.assertTrue(same(part_at(TREE, ()), TREE))
        self.assertTrue(same(part_at(TREE, (0,)), WORK))
        self.assertTrue(same(part_at(TREE, (1,)), BESIDE))
        self.assertTrue(same(part_at(TREE, (1, 1)), ("work", 7)))
        self.assertTrue(same(part_at(WORK, ()), WORK))
        self.assertTrue(same(part_at(DEEP, (0, 0, 1)), ("work", 5)))

    def test_each_place_has_its_part(self):
        for tree in many_trees():
            for place in places_in(tree):
                part = part_at(tree, place)
                self.assertIs(is_tree(part), True)
                inner = () if part[0] == "work" else part[2]
                for k, one in enumerate(inner):
                    self.assertEqual(part_at(tree, (*place, k)), one)
                self.refused(tree, (*place, len(inner)))

    def test_no_places(self):
        for place in ((3,), (0, 0), (1, 2), (1, 0, 0), (-1,), (1, -1), (True,), (False,), (1, True), [1], [], None, 0,
                      "0", "", (None,), ("1",), ((1,),), (HUGE,), (1, HUGE), True):
            self.refused(TREE, place)
        for place in ODD_THINGS:
            if not isinstance(place, tuple) or place:
                self.refused(WORK, place)

    def test_by_names(self):
        self.assertEqual(places_in(tree=WORK), ((),))
        self.assertEqual(part_at(place=(0,), tree=TREE), WORK)


class TestNeed(unittest.TestCase):
    def test_each_form(self):
        self.assertEqual(need(WORK), 5)
        self.assertEqual(need(("work", 0)), 0)
        self.assertEqual(need(BESIDE), 9)
        self.assertEqual(need(("then", 3, (("work", 2), ("work", 4)))), 18)
        self.assertEqual(need(("then", 0, (("work", 2), ("work", 4)))), 6)
        self.assertEqual(need(("then", 3, (("work", 0),))), 6)
        self.assertEqual(need(("beside", 3, (("work", 0), ("work", 0)))), 6)
        self.assertEqual(need(TREE), 26)
        self.assertEqual(need(WIDE), 10)
        self.assertEqual(need(DEEP), 27)

    def test_of_all_places(self):
        self.assertTrue(same(needs(TREE), (((), 26), ((0,), 5), ((1,), 9), ((1, 0), 3), ((1, 1), 7), ((2,), 0))))
        self.assertTrue(same(needs(WORK), (((), 5),)))
        self.assertEqual(needs(DEEP), (((), 27), ((0,), 25), ((0, 0), 21), ((0, 0, 0), 4), ((0, 0, 1), 5)))

    def test_one_by_one(self):
        for tree in many_trees():
            self.assertEqual(needs(tree), tuple((place, need(part_at(tree, place))) for place in places_in(tree)))

    def test_by_names(self):
        self.assertEqual(need(tree=WORK), 5)
        self.assertEqual(needs(tree=WORK), (((), 5),))


if __name__ == "__main__":
    unittest.main()

import itertools
import random
import unittest

from takings import ALLOWANCES, ROWS, begins
from things import ODD_THINGS, same

from twicecalls.errors import NoSetting
from twicecalls.fractions import is_less, minus, plus, times, total_of
from twicecalls.purses import fits, is_allowance, is_takings, purse_behind, purse_left


class TestKinds(unittest.TestCase):
    def test_allowances(self):
        for thing in ALLOWANCES:
            self.assertIs(is_allowance(thing), True)
        self.assertIs(is_allowance(thing=((10 ** 300, 1), (1, 10 ** 300))), True)

    def test_no_allowances(self):
        for thing in ((), ((1, 2),), ((1, 2), (1, 2), (1, 2)), [(1, 2), (1, 2)], ((1, 2), [1, 2]), ([1, 2], (1, 2)),
                      ((2, 4), (1, 2)), ((1, 2), (2, 4)), ((1, 0), (1, 1)), ((1, 1), (1, 0)), (1, 2), (True, (1, 2)),
                      ((1, True), (1, 1)), ((1, 1), (True, 1)), ((-1, 1), (1, 1)), (None, None), "ab", None, 0, True):
            self.assertIs(is_allowance(thing), False, thing)
        for thing in ODD_THINGS:
            self.assertIs(is_allowance(thing), False)

    def test_takings(self):
        for thing in ((), ("first",), ("more",), ("first", "more", "more"), ("first",) * 201, ("more",
                      "first") * 2000):
            self.assertIs(is_takings(thing), True)
        self.assertIs(is_takings(thing=("first",)), True)

    def test_no_takings(self):
        for thing in (["first"], [], "first", "", ("First",), ("first ",), ("more", "less"), ("more", ""), (1,),
                      (True,), (None,), (("more",),), (["more"],), ("first",) * 300 + ("mor",), None, 0, True):
            self.assertIs(is_takings(thing), False)
        for thing in ODD_THINGS:
            self.assertIs(is_takings(thing), thing == () and isinstance(thing, tuple))


class TestPurseBehind(unittest.TestCase):
    def refused(self, why, *handed, **named):
        with self.assertRaises(NoSetting) as caught:
            purse_behind(*handed, **named)
        self.assertEqual(caught.exception.word, why)

    def test_first(self):
        allowance = ((1, 2), (2, 1))
        for begin, behind in (((0, 1), (1, 2)), ((1, 2), (1, 1)), ((3, 2), (2, 1)), ((5, 3), (2, 1)), ((2, 1), (2,
                              1)),
                              (None, (2, 1)), ((1, 3), (5, 6))):
            self.assertTrue(same(purse_behind(allowance, "first", begin), behind))
        self.assertEqual(purse_behind(((9, 1), (1, 3)), "first", (0, 1)), (1, 3))
        self.assertEqual(purse_behind(((0, 1), (2, 1)), "first", (1, 3)), (1, 3))

    def test_more(self):
        allowance = ((1, 2), (2, 1))
        for begin, behind in (((1, 1), (0, 1)), ((3, 2), (1, 2)), ((2, 1), (1, 1)), (None, (1, 1))):
            self.assertTrue(same(purse_behind(allowance, "more", begin), behind))

    def test_less_than_a_whole(self):
        for begin in ((0, 1), (1, 2), (99, 100), (10 ** 300 - 1, 10 ** 300)):
            self.refused("purse", ((1, 2), (2, 1)), "more", begin)
        self.refused("purse", ((1, 2), (2, 3)), "more")
        self.refused("purse", ((1, 2), (0, 1)), "more", None)

    def test_no_word_ahead_of_the_purse(self):
        for word in ODD_THINGS:
            if word != "first":
                self.refused("word", ((1, 2), (0, 1)), word)
                self.refused("word", ((1, 2), (2, 1)), word, (1, 1))
        for word in ("more ", ("more",), ["more"], "MORE"):
            self.refused("word", ((1, 2), (0, 1)), word, (0, 1))

    def test_by_names(self):
        self.assertEqual(purse_behind(begin=(1, 1), word="more", allowance=((1, 2), (2, 1))), (0, 1))
        self.refused("purse", allowance=((1, 2), (2, 1)), word="more", begin=(1, 2))
        self.refused("word", allowance=((1, 2), (2, 1)), word=1)


class TestFits(unittest.TestCase):
    def walked(self, allowance, takings, begin):
        purse = allowance[1] if begin is None else begin
        for word in takings:
            try:
                purse = purse_behind(allowance, word, purse)
            except NoSetting:
                return None
        return purse

    def test_word_by_word(self):
        for allowance in ALLOWANCES:
            for begin, row in itertools.product(begins(allowance), ROWS):
                left = self.walked(allowance, row, begin)
                self.assertIs(fits(allowance, row, begin), left is not None)
                if left is not None:
                    self.assertTrue(same(purse_left(allowance, row, begin), left))
                    continue
                with self.assertRaises(NoSetting) as caught:
                    purse_left(allowance, row, begin)
                self.assertEqual(caught.exception.word, "purse")

    def test_none(self):
        self.assertIs(fits(((1, 2), (2, 1)), ()), True)
        self.assertTrue(same(purse_left(((1, 2), (2, 1)), ()), (2, 1)))
        self.assertTrue(same(purse_left(((1, 2), (2, 1)), (), (1, 3)), (1, 3)))
        self.assertTrue(same(purse_left(((1, 2), (2, 1)), (), (0, 1)), (0, 1)))

    def test_two_hundred_words(self):
        self.assertEqual(purse_left(((1, 7), (100, 1)), ("first", "more") * 100, (99, 1)), (93, 7))
        self.assertIs(fits(((1, 7), (100, 1)), ("more",) * 101), False)
        self.assertIs(fits(((1, 7), (100, 1)), ("more",) * 100), True)

    def test_by_names(self):
        self.assertIs(fits(begin=(0, 1), takings=("more",), allowance=((1, 2), (2, 1))), False)
        self.assertEqual(purse_left(begin=(1, 1), takings=("more",), allowance=((1, 2), (2, 1))), (0, 1))


class TestWhatFollows(unittest.TestCase):
    def fitting(self):
        for allowance in ALLOWANCES:
            for begin, row in itertools.product(begins(allowance), ROWS):
                if fits(allowance, row, begin):
                    yield allowance, allowance[1] if begin is None else begin, row

    def test_never_less_than_none_nor_more_than_most(self):
        for allowance, begin, row in self.fitting():
            left = purse_left(allowance, row, begin)
            self.assertGreaterEqual(left[0], 0)
            self.assertIs(is_less(allowance[1], left), False)

    def test_each_beginning_fits(self):
        for allowance, begin, row in self.fitting():
            for many in range(len(row)):
                self.assertIs(fits(allowance, row[:many], begin), True)

    def test_a_more_out_and_a_first_more(self):
        for allowance, begin, row in self.fitting():
            for at in range(len(row) + 1):
                self.assertIs(fits(allowance, row[:at] + ("first",) + row[at:], begin), True)
                if row[at:at + 1] == ("more",):
                    self.assertIs(fits(allowance, row[:at] + row[at + 1:], begin), True)

    def test_by_a_greater_begin_rate_or_most(self):
        for (rate, most), begin, row in self.fitting():
            self.assertIs(fits((plus(rate, (1, 3)), most), row, begin), True)
            self.assertIs(fits((rate, plus(most, (1, 3))), row, begin), True)
            for more in (begin, (0, 1), (1, 5), (1, 2), (1, 1)):
                if not is_less(most, plus(begin, more)):
                    self.assertIs(fits((rate, most), row, plus(begin, more)), True)

    def test_more_is_no_oftener_than_told(self):
        for (rate, most), begin, row in self.fitting():
            for at, to in itertools.combinations(range(len(row) + 1), 2):
                words = row[at:to]
                gained = times(rate, (words.count("first"), 1))
                self.assertIs(is_less(plus(most, gained), (words.count("more"), 1)), False)
                if at == 0:
                    self.assertIs(is_less(plus(begin, gained), (words.count("more"), 1)), False)

    def test_long_rows(self):
        chance = random.Random(15)
        for _ in range(100):
            allowance = chance.choice(ALLOWANCES)
            row = tuple(chance.choice(("first", "first", "more")) for _ in range(200))
            purse = allowance[1]
            took = []
            for word in row:
                if word == "first":
                    purse = total_of((purse, allowance[0]))
                    purse = allowance[1] if is_less(allowance[1], purse) else purse
                elif minus(purse, (1, 1)) is None:
                    continue
                else:
                    purse = minus(purse, (1, 1))
                took.append(word)
            self.assertEqual(purse_left(allowance, tuple(took)), purse)


if __name__ == "__main__":
    unittest.main()

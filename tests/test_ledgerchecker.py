import copy
import random
import unittest
from fractions import Fraction

from takings import many_takings, plain_ledger, plain_overdrafts
from things import HUGE, ODD_THINGS, same, spoiled

from twicecalls.errors import CallError, NoPaper
from twicecalls.fractions import plus
from twicecalls.ledgerchecker import lets_ledger, lets_overdraft
from twicecalls.ledgers import ledger, overdraft
from twicecalls.purses import fits, purse_left

ALLOWANCE = ((1, 2), (2, 1))
TAKINGS = ("more", "first", "more", "first", "first", "first")
LEDGER = ((1, 1), (3, 2), (1, 2), (1, 1), (3, 2), (2, 1))


class Refused(unittest.TestCase):
    def refused(self, look, word, at, *handed):
        with self.assertRaises(NoPaper) as caught:
            look(*handed)
        self.assertIsInstance(caught.exception, CallError)
        self.assertTrue(same((caught.exception.word, caught.exception.at), (word, at)),
                        (vars(caught.exception), handed))


class TestLetsLedger(Refused):
    def wrong(self, word, at, thing, allowance=ALLOWANCE, takings=TAKINGS, begin=None):
        self.refused(lets_ledger, word, at, allowance, takings, thing, begin)

    def test_right_ones(self):
        self.assertTrue(same(lets_ledger(ALLOWANCE, TAKINGS, LEDGER), (2, 1)))
        self.assertTrue(same(lets_ledger(ALLOWANCE, TAKINGS[:3], LEDGER[:3]), (1, 2)))
        self.assertTrue(same(lets_ledger(ALLOWANCE, ("first", "first"), ((5, 6), (4, 3)), (1, 3)), (4, 3)))
        self.assertTrue(same(lets_ledger(ALLOWANCE, ("more",), ((0, 1),), (1, 1)), (0, 1)))
        self.assertTrue(same(lets_ledger(begin=(1, 1), thing=((0, 1),), takings=("more",), allowance=ALLOWANCE),
                             (0, 1)))

    def test_of_no_words(self):
        self.assertTrue(same(lets_ledger(ALLOWANCE, (), ()), (2, 1)))
        self.assertTrue(same(lets_ledger(ALLOWANCE, (), (), None), (2, 1)))
        self.assertTrue(same(lets_ledger(ALLOWANCE, (), (), (1, 3)), (1, 3)))
        self.assertTrue(same(lets_ledger(ALLOWANCE, (), (), (0, 1)), (0, 1)))

    def test_begin_left_out_is_most(self):
        thing = ((1, 1), (0, 1))
        for handed in ((), (None,), ((2, 1),)):
            self.assertEqual(lets_ledger(ALLOWANCE, ("more", "more"), thing, *handed), (0, 1))
        self.wrong("entry", 0, thing, takings=("more", "more"), begin=(19, 10))
        self.wrong("purse", 1, ((9, 10), (0, 1)), takings=("more", "more"), begin=(19, 10))

    def test_shape(self):
        for thing in (list(LEDGER), LEDGER[:5] + ([2, 1],), LEDGER[:5] + ((4, 2),), LEDGER[:5] + ((2, 0),),
                      LEDGER[:5] + ((2, True),), LEDGER[:5] + ((True, 1),), LEDGER[:5] + ((-2, 1),),
                      LEDGER[:5] + ((2,),), LEDGER[:5] + ((2, 1, 1),), LEDGER[:5] + (2,), LEDGER[:5] + (None,),
                      LEDGER[:5] + ("21",), LEDGER[0], [], None, True, 0, "", ((0, 0),)):
            self.wrong("shape", -1, thing)
        for thing in ODD_THINGS:
            if thing != () or isinstance(thing, list):
                self.wrong("shape", -1, thing)
                self.wrong("shape", -1, thing, takings=())

    def test_few(self):
        for k in range(len(LEDGER)):
            self.wrong("few", k, LEDGER[:k])
        self.wrong("few", 0, (), takings=("more",), begin=(0, 1))
        self.wrong("few", 2, ((1, 1), (0, 1)), takings=("more", "more", "more"))

    def test_purse(self):
        self.wrong("purse", 0, ((0, 1),), takings=("more",), begin=(99, 100))
        self.wrong("purse", 2, ((1, 1), (0, 1), (0, 1)), takings=("more", "more", "more"))
        self.wrong("purse", 1, ((2, 3), (0, 1)), ((9, 1), (2, 3)), ("first", "more"))

    def test_entry(self):
        for k in range(len(LEDGER)):
            for other in ((0, 1), (2, 1), (10 ** 99, 10 ** 99 + 1), (HUGE, 1), (5, 2)):
                if other != LEDGER[k]:
                    self.wrong("entry", k, LEDGER[:k] + (other,) + LEDGER[k + 1:])
        # Most at the most.
        self.wrong("entry", 0, ((5, 2),), takings=("first",))

    def test_more(self):
        self.wrong("more", 6, LEDGER + ((2, 1),))
        self.wrong("more", 6, LEDGER + ((2, 1),) * 3)
        self.wrong("more", 0, ((2, 1),), takings=())
        self.wrong("more", 1, LEDGER, takings=TAKINGS[:1])

    def test_the_first_told_goes(self):
        self.wrong("shape", -1, ((7, 1), [1, 1]))
        self.wrong("shape", -1, LEDGER + ((2, 2),))
        self.wrong("entry", 0, ((7, 1),))
        self.wrong("few", 1, ((1, 1),), takings=("more", "more", "more"))
        self.wrong("purse", 0, ((7, 1),) * 9, takings=("more", "more"), begin=(1, 2))
        self.wrong("entry", 1, ((1, 1), (1, 3), (0, 1)), takings=("more", "more", "more"))
        self.wrong("entry", 5, LEDGER[:5] + ((1, 1), (2, 1)))
        self.wrong("purse", 2, ((1, 1), (0, 1), (0, 1), (0, 1)), takings=("more", "more", "more"))

    def test_what_is_told_is_let_by(self):
        for allowance, takings, begin in many_takings():
            thing = ledger(allowance, takings, begin)
            if thing is not None:
                before = copy.deepcopy(thing)
                left = purse_left(allowance, takings, begin)
                self.assertTrue(same(lets_ledger(allowance, takings, thing, begin), left))
                self.assertTrue(same(thing, before))

    def test_whoever_wrote_it(self):
        # A paper that is wrong at one place, or of TAKINGS that don't FIT, is let by never.
        chance, seen = random.Random(18), 0
        for allowance, takings, begin in many_takings():
            thing = plain_ledger(allowance, takings, begin)
            if thing is None:
                for k in range(len(takings) + 1):
                    for paper in (plain_ledger(allowance, takings[:k], begin) or (), ((0, 1),) * k):
                        self.assertRaises(NoPaper, lets_ledger, allowance, takings, paper, begin)
            elif thing:
                k, seen = chance.randrange(len(thing)), seen + 1
                other = plus(thing[k], (1, 10 ** 30))
                self.wrong("entry", k, thing[:k] + (other,) + thing[k + 1:], allowance, takings, begin)
        self.assertGreater(seen, 300)

    def test_one_part_otherwise(self):
        for thing in spoiled(LEDGER):
            with self.assertRaises(NoPaper):
                lets_ledger(ALLOWANCE, TAKINGS, thing)

    def test_fractions_of_any_figures(self):
        # [22]: what was told is handed in again.
        allowance = ((10 ** 99 + 1, 10 ** 100), (10 ** 100 - 1, 10 ** 98 + 7))
        takings = ("first", "more") * 100
        thing = ledger(allowance, takings)
        self.assertEqual(lets_ledger(allowance, takings, thing), thing[-1])
        self.assertEqual(lets_ledger(allowance, takings, ledger(allowance, takings, thing[7]), thing[7]),
                         purse_left(allowance, takings, thing[7]))


class TestLetsOverdraft(Refused):
    TAKINGS = ("more", "first", "more", "more", "first", "more")

    def wrong(self, word, at, thing, allowance=ALLOWANCE, takings=TAKINGS, begin=None):
        self.refused(lets_overdraft, word, at, allowance, takings, thing, begin)

    def test_right_ones(self):
        self.assertTrue(same(lets_overdraft(ALLOWANCE, ("more",) * 3, (0, 2)), 3))
        self.assertTrue(same(lets_overdraft(ALLOWANCE, ("more",), (0, 0), (1, 2)), 1))
        self.assertTrue(same(lets_overdraft(ALLOWANCE, self.TAKINGS, (0, 3)), 3))
        self.assertTrue(same(lets_overdraft(ALLOWANCE, self.TAKINGS, (0, 5)), 4))
        self.assertTrue(same(lets_overdraft(ALLOWANCE, self.TAKINGS, (2, 5)), 3))
        self.assertTrue(same(lets_overdraft(((1, 2), (0, 1)), ("first", "more"), (1, 1)), 1))
        self.assertTrue(same(lets_overdraft(begin=(0, 1), thing=(0, 0), takings=("more",), allowance=ALLOWANCE), 1))

    def test_begin_left_out_is_most(self):
        takings = ("more", "more")
        for handed in ((), (None,), ((2, 1),)):
            self.refused(lets_overdraft, "sums", -1, ALLOWANCE, takings, (0, 1), *handed)
        self.assertEqual(lets_overdraft(ALLOWANCE, takings, (0, 1), (19, 10)), 2)

    def test_begin_counts_from_the_first_word_on_alone(self):
        takings = ("first", "more", "more")
        self.assertEqual(lets_overdraft(ALLOWANCE, takings, (0, 2), (0, 1)), 2)
        self.wrong("sums", -1, (1, 2), takings=takings, begin=(0, 1))
        self.assertEqual(lets_overdraft(ALLOWANCE, ("more",) * 4, (1, 3), (0, 1)), 3)
        self.wrong("sums", -1, (1, 2), takings=("more",) * 4, begin=(0, 1))

    def test_just_as_often_is_none(self):
        self.wrong("sums", -1, (0, 1), takings=("more", "more"))
        self.wrong("sums", -1, (0, 3), takings=("more", "first", "first", "more", "more"))
        self.assertEqual(lets_overdraft(ALLOWANCE, ("more", "first", "more", "more"), (0, 3)), 3)
        self.wrong("sums", -1, (0, 4), takings=("more", "first", "first", "more", "more"))
        self.wrong("sums", -1, (0, 0), takings=("first",), begin=(0, 1))

    def test_shape(self):
        for thing in ([0, 3], (0,), (0, 3, 3), (True, 3), (0, True), (False, 3), (-1, 3), (0, -1), ("0", 3), (0, None),
                      ((0, 3),), (0, (3,)), "03", None, 0, True, (), (None, None)):
            self.wrong("shape", -1, thing)
        for thing in ODD_THINGS:
            self.wrong("shape", -1, thing)
            self.wrong("shape", -1, thing, takings=())

    def test_words(self):
        for thing in ((1, 0), (0, 6), (6, 6), (5, 6), (HUGE, HUGE), (0, HUGE), (HUGE, 0), (7, 7), (4, 3)):
            self.wrong("words", -1, thing)
        self.wrong("words", -1, (0, 0), takings=())
        self.wrong("words", -1, (0, 1), takings=("more",))

    def test_sums(self):
        for thing in ((0, 0), (1, 1), (0, 1), (0, 2), (3, 5), (1, 4)):
            self.wrong("sums", -1, thing)

    def test_the_first_told_goes(self):
        self.wrong("shape", -1, (9, -1))
        self.wrong("shape", -1, (9, True), takings=())
        self.wrong("words", -1, (5, 4))
        self.wrong("words", -1, (4, 1))

    def test_just_those_that_there_are(self):
        seen = 0
        for allowance, takings, begin in many_takings():
            right = plain_overdrafts(allowance, takings, begin)
            seen += len(right)
            for low in range(len(takings) if len(takings) < 9 else 2):
                for high in range(low, len(takings)):
                    if (low, high) in right:
                        told = lets_overdraft(allowance, takings, (low, high), begin)
                        self.assertTrue(same(told, takings[low:high + 1].count("more")))
                    else:
                        self.wrong("sums", -1, (low, high), allowance, takings, begin)
        self.assertGreater(seen, 1000)

    def test_what_is_told_is_let_by_and_just_one_of_both_is(self):
        for allowance, takings, begin in many_takings():
            one, other = ledger(allowance, takings, begin), overdraft(allowance, takings, begin)
            self.assertEqual((one is None, other is None), (not fits(allowance, takings, begin),
                                                            fits(allowance, takings, begin)))
            if other is not None:
                self.assertGreater(lets_overdraft(allowance, takings, other, begin), 0)
                self.assertRaises(NoPaper, lets_ledger, allowance, takings, one, begin)

    def test_fractions_of_any_figures(self):
        allowance = ((10 ** 99 + 1, 10 ** 100), (10 ** 100 - 1, 10 ** 98 + 7))
        takings = ("first",) * 40 + ("more",) * 160
        thing = overdraft(allowance, takings)
        many = lets_overdraft(allowance, takings, thing)
        self.assertGreater(many, Fraction(*allowance[1]))


if __name__ == "__main__":
    unittest.main()

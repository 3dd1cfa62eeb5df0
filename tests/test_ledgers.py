import unittest

from takings import many_takings, plain_ledger, plain_overdrafts
from things import same

from twicecalls.fractions import is_fraction
from twicecalls.ledgers import ledger, overdraft
from twicecalls.purses import fits, purse_behind, purse_left

class TestLedger(unittest.TestCase):
    ALLOWANCE = ((1, 2), (2, 1))

    def test_of_no_words(self):
        self.assertTrue(same(ledger(self.ALLOWANCE, ()), ()))
        self.assertTrue(same(ledger(((0, 1), (0, 1)), (), (0, 1)), ()))

    def test_one_for_each_word(self):
        takings = ("more", "first", "more", "first", "first", "first")
        self.assertTrue(same(ledger(self.ALLOWANCE, takings),
                             ((1, 1), (3, 2), (1, 2), (1, 1), (3, 2), (2, 1))))
        self.assertTrue(same(ledger(self.ALLOWANCE, ("first", "first", "more"), (1, 3)), ((5, 6), (4, 3), (1, 3))))
        # Most at the most, and just nothing left.
        self.assertTrue(same(ledger(self.ALLOWANCE, ("first", "more", "more", "first"), (7, 4)),
                             ((2, 1), (1, 1), (0, 1), (1, 2))))

    def test_none_where_a_word_is_refused(self):
        self.assertIsNone(ledger(self.ALLOWANCE, ("more", "more", "more")))
        self.assertIsNone(ledger(self.ALLOWANCE, ("more", "more", "first", "more", "first")))
        self.assertIsNone(ledger(self.ALLOWANCE, ("more",), (99, 100)))
        self.assertIsNone(ledger(((9, 1), (2, 3)), ("first", "more")))
        self.assertTrue(same(ledger(self.ALLOWANCE, ("more",), (1, 1)), ((0, 1),)))

    def test_begin_left_out_is_most(self):
        told = ((1, 1), (0, 1))
        self.assertTrue(same(ledger(self.ALLOWANCE, ("more", "more")), told))
        self.assertTrue(same(ledger(self.ALLOWANCE, ("more", "more"), None), told))
        self.assertTrue(same(ledger(self.ALLOWANCE, ("more", "more"), (2, 1)), told))
        self.assertIsNone(ledger(self.ALLOWANCE, ("more", "more"), (19, 10)))

    def test_by_names(self):
        self.assertEqual(ledger(begin=(1, 1), takings=("first",), allowance=self.ALLOWANCE), ((3, 2),))

    def test_against_a_plain_one(self):
        for allowance, takings, begin in many_takings():
            told = ledger(allowance, takings, begin)
            self.assertTrue(same(told, plain_ledger(allowance, takings, begin)), (allowance, takings, begin))
            self.assertEqual(told is not None, fits(allowance, takings, begin))
            if told:
                self.assertEqual(told[-1], purse_left(allowance, takings, begin))

    def test_each_is_behind_the_one_ahead(self):
        # [22]: an entry is handed in again as what the purse has.
        takings = ("first", "more") * 100
        allowance = ((10 ** 99 + 1, 10 ** 100), (10 ** 100 - 1, 10 ** 98 + 7))
        told = ledger(allowance, takings)
        self.assertEqual(len(told), 200)
        for k in range(1, 200):
            self.assertTrue(is_fraction(told[k]))
            self.assertEqual(purse_behind(allowance, takings[k], told[k - 1]), told[k])


class TestOverdraft(unittest.TestCase):
    ALLOWANCE = ((1, 2), (2, 1))

    def test_none(self):
        for takings in ((), ("first",), ("more", "more"), ("more", "more", "first", "first", "more")):
            self.assertIsNone(overdraft(self.ALLOWANCE, takings))
        self.assertIsNone(overdraft(self.ALLOWANCE, ("first", "more"), (1, 2)))

    def test_from_the_first_word_on(self):
        self.assertTrue(same(overdraft(self.ALLOWANCE, ("more", "more", "more")), (0, 2)))
        self.assertTrue(same(overdraft(self.ALLOWANCE, ("more",), (1, 2)), (0, 0)))
        self.assertTrue(same(overdraft(self.ALLOWANCE, ("first", "more"), (0, 1)), (0, 1)))
        takings = ("more", "more", "first", "more", "first")
        self.assertEqual(plain_overdrafts(self.ALLOWANCE, takings, None), [(0, 3)])
        self.assertTrue(same(overdraft(self.ALLOWANCE, takings), (0, 3)))

    def test_behind_a_first_that_filled_the_purse(self):
        takings = ("first", "more", "more", "more")
        self.assertEqual(plain_overdrafts(self.ALLOWANCE, takings, None), [(0, 3), (1, 3)])
        takings = ("first",) * 9 + ("more", "more", "more")
        self.assertEqual(plain_overdrafts(self.ALLOWANCE, takings, None), [(8, 11), (9, 11)])
        self.assertIn(overdraft(self.ALLOWANCE, takings), [(8, 11), (9, 11)])
        takings = ("first",) * 3 + ("more", "first", "more", "more")
        allowance = ((3, 4), (2, 1))
        self.assertEqual(plain_overdrafts(allowance, takings, (0, 1)), [(3, 6)])
        self.assertTrue(same(overdraft(allowance, takings, (0, 1)), (3, 6)))

    def test_begin_left_out_is_most(self):
        takings = ("more", "more", "more")
        self.assertEqual(overdraft(self.ALLOWANCE, takings), (0, 2))
        self.assertEqual(overdraft(self.ALLOWANCE, takings, None), (0, 2))
        self.assertEqual(overdraft(self.ALLOWANCE, takings, (2, 1)), (0, 2))
        self.assertIn(overdraft(self.ALLOWANCE, takings, (19, 10)), [(0, 1), (0, 2)])

    def test_by_names(self):
        self.assertEqual(overdraft(begin=(1, 2), takings=("more",), allowance=self.ALLOWANCE), (0, 0))

    def test_any_of_those_that_there_are_just_where_there_is_no_ledger(self):
        seen, behind = 0, 0
        for allowance, takings, begin in many_takings():
            found = plain_overdrafts(allowance, takings, begin)
            told = overdraft(allowance, takings, begin)
            self.assertEqual(bool(found), ledger(allowance, takings, begin) is None)
            if not found:
                self.assertIsNone(told)
                continue
            seen += 1
            behind += min(found)[0] > 0
            self.assertTrue(any(same(told, one) for one in found), (allowance, takings, begin))
        self.assertGreater(seen, 300)
        self.assertGreater(behind, 20)


if __name__ == "__main__":
    unittest.main()

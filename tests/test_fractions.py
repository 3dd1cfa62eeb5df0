import itertools
import random
import unittest
from fractions import Fraction

from things import ODD_THINGS, same

from twicecalls.fractions import fraction_of, is_fraction, is_less, lesser, minus, plus, times, total_of

SOME = ((0, 1), (1, 1), (1, 2), (1, 3), (2, 3), (3, 2), (7, 5), (100, 99), (99, 100), (4, 1),
        (10 ** 300 + 1, 10 ** 300), (1, 10 ** 301), (10 ** 302, 1))


def as_python(fraction):
    return Fraction(*fraction)


def as_pair(value):
    return (value.numerator, value.denominator)


class TestIsFraction(unittest.TestCase):
    def test_fractions(self):
        for thing in SOME:
            self.assertIs(is_fraction(thing), True, thing)

    def test_no_fractions(self):
        for thing in ((2, 4), (0, 2), (3, 3), (10, 5), (1, 0), (0, 0), (2, 0), (-1, 1), (1, -1), (-1, -1), (-1, 2),
                      (True, 1), (1, True), (False, 1), (0, True), (None, 1), (1, None), ("1", 1), (1, "2"), ("1", "2"),
                      [1, 2], (1,), (1, 2, 3), ((1, 2), 1), ((1,), (2,)), ([1], 2), "1/2", "12", 1, 0, None, True, ()):
            self.assertIs(is_fraction(thing), False, thing)

    def test_any_thing_has_an_answer(self):
        for thing in ODD_THINGS:
            self.assertIs(is_fraction(thing), False)
        self.assertIs(is_fraction(ODD_THINGS), False)

    def test_by_name(self):
        self.assertIs(is_fraction(thing=(1, 2)), True)


class TestFractionOf(unittest.TestCase):
    def test_cut(self):
        for over, under, told in ((0, 1, (0, 1)), (0, 7, (0, 1)), (6, 4, (3, 2)), (4, 6, (2, 3)), (5, 5, (1, 1)),
                                  (1, 9, (1, 9)), (9, 1, (9, 1)), (12, 4, (3, 1))):
            self.assertTrue(same(fraction_of(over, under), told))

    def test_hundreds_of_figures(self):
        big, other = 3 ** 900, 2 ** 1500
        self.assertEqual(fraction_of(big * other, big * 7), (other, 7))
        self.assertEqual(fraction_of(big, big), (1, 1))
        self.assertEqual(fraction_of(big, other), (big, other))
        self.assertEqual(fraction_of(0, big), (0, 1))

    def test_all_small_ones(self):
        for over, under in itertools.product(range(25), range(1, 25)):
            self.assertEqual(fraction_of(over, under), as_pair(Fraction(over, under)))
            self.assertIs(is_fraction(fraction_of(over, under)), True)

    def test_by_name(self):
        self.assertEqual(fraction_of(under=4, over=2), (1, 2))


class TestReckoning(unittest.TestCase):
    def test_against_python(self):
        for one, other in itertools.product(SOME, SOME):
            a, b = as_python(one), as_python(other)
            self.assertTrue(same(plus(one, other), as_pair(a + b)))
            self.assertTrue(same(times(one, other), as_pair(a * b)))
            self.assertTrue(same(minus(one, other), as_pair(a - b) if a >= b else None))
            self.assertIs(is_less(one, other), a < b)
            self.assertTrue(same(lesser(one, other), as_pair(min(a, b))))

    def test_minus_edges(self):
        self.assertEqual(minus((1, 2), (1, 2)), (0, 1))
        self.assertEqual(minus((0, 1), (0, 1)), (0, 1))
        self.assertIsNone(minus((1, 3), (1, 2)))
        self.assertIsNone(minus((0, 1), (1, 10 ** 301)))
        self.assertEqual(minus((1, 2), (1, 3)), (1, 6))

    def test_just_one_of_three(self):
        for one, other in itertools.product(SOME, SOME):
            self.assertEqual([is_less(one, other), one == other, is_less(other, one)].count(True), 1)

    def test_what_one_has_more_added_to_other_is_one(self):
        for one, other in itertools.product(SOME, SOME):
            more = minus(one, other)
            self.assertEqual(more is None, is_less(one, other))
            if more is not None:
                self.assertEqual(plus(more, other), one)

    def test_whatever_order(self):
        for one, other, third in itertools.product(SOME, repeat=3):
            self.assertEqual(plus(one, other), plus(other, one))
            self.assertEqual(times(one, other), times(other, one))
            self.assertEqual(plus(plus(one, other), third), plus(one, plus(other, third)))
            self.assertEqual(times(times(one, other), third), times(one, times(other, third)))

    def test_totals(self):
        self.assertTrue(same(total_of(()), (0, 1)))
        self.assertEqual(total_of(((2, 3),)), (2, 3))
        self.assertEqual(total_of(((1, 2), (1, 3), (1, 6))), (1, 1))
        self.assertEqual(total_of(SOME), as_pair(sum(map(as_python, SOME))))
        chance = random.Random(5)
        for _ in range(50):
            row = list(SOME)
            chance.shuffle(row)
            self.assertEqual(total_of(tuple(row)), total_of(SOME))

    def test_by_names(self):
        self.assertEqual(plus(other=(1, 2), one=(1, 3)), (5, 6))
        self.assertEqual(times(other=(1, 2), one=(1, 3)), (1, 6))
        self.assertEqual(minus(other=(1, 3), one=(1, 2)), (1, 6))
        self.assertIs(is_less(other=(1, 2), one=(1, 3)), True)
        self.assertEqual(lesser(other=(1, 2), one=(1, 3)), (1, 3))
        self.assertEqual(total_of(fractions=((1, 2), (1, 2))), (1, 1))


if __name__ == "__main__":
    unittest.main()

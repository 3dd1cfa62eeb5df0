import copy
import random
import unittest

from things import HUGE, KEYS, NO_KEYS, ODD_THINGS, SETTING, same, spoiled

from twicecalls.books import lets_book
from twicecalls.errors import CallError, NoPaper
from twicecalls.house import asked
from twicecalls.settings import call_of

LATE = ("late",)
# SETTING's: till 5, till 1, safe 2, till 7 of the first GROUP, safe 4 of the third, box 1 of the last CALLER.
BOOK = (((0, 0, 0), ("done", 5)), ((0, 2, 0), ("done", 4)), ((0, 0, 1), LATE), ((0, 0, 2), ("done", 6)),
        ((2, 0, 0), ("done", 1)), ((0, 0, 3), ("done", 12)))
GROUP = (("till", 3, 1),) * 4
TWO = ((((), (1, 1), (1, 1)), ((GROUP, GROUP), (1, 1), (1, 1))), 1, 1)


def book_made(chance, setting, keys):
    """A BOOK of some KEYS, in any order that rises in each GROUP, and its CELLS."""
    rows, sums = [], {}
    left = list(keys)
    for _ in range(chance.randrange(len(left) + 1)):
        key = chance.choice([one for one in left if not any(o[:2] == one[:2] and o < one for o in left)])
        left.remove(key)
        if chance.random() < 0.4:
            rows.append((key, LATE))
            continue
        cell, number, _ = call_of(setting, key)
        sums[cell] = sums.get(cell, 0) + number
        rows.append((key, ("done", sums[cell])))
    return tuple(rows), tuple(sorted(sums.items()))


def plain_refusal(setting, keys, book):
    """The first refusal of pairs of KEYS and ANSWERS: each pair by a look at all those ahead of it."""
    for i, (key, answer) in enumerate(book):
        ahead = book[:i]
        if key not in keys or key in [one for one, _ in ahead]:
            return ("key", i)
        if key[2] != len([one for one, _ in ahead if one[:2] == key[:2]]):
            return ("turn", i)
        cell, number, _ = call_of(setting, key)
        done = [call_of(setting, one) for one, other in ahead if other != LATE]
        told = sum(call[1] for call in done if call[0] == cell)
        if answer not in (LATE, ("done", told + number)):
            return ("answer", i)
    return None


class TestLetsBook(unittest.TestCase):
    def refused(self, word, at, thing, setting=SETTING):
        with self.assertRaises(NoPaper) as caught:
            lets_book(setting, thing)
        self.assertIsInstance(caught.exception, CallError)
        self.assertTrue(same((caught.exception.word, caught.exception.at), (word, at)), (vars(caught.exception), thing))

    def test_right_ones(self):
        self.assertTrue(same(lets_book(SETTING, BOOK), (("box", 1), ("safe", 6), ("till", 12))))
        for many in range(len(BOOK)):
            lets_book(SETTING, BOOK[:many])
        self.assertTrue(same(lets_book(thing=BOOK[:1], setting=SETTING), (("till", 5),)))

    def test_of_nothing(self):
        self.assertTrue(same(lets_book(SETTING, ()), ()))
        for groups in ((), ((),), ((), ())):
            self.assertTrue(same(lets_book((((groups, (0, 1), (0, 1)),), 1, 1), ()), ()))

    def test_no_cell_of_a_late_one(self):
        self.assertTrue(same(lets_book(SETTING, (((0, 0, 0), LATE),)), ()))
        self.assertTrue(same(lets_book(SETTING, tuple((key, LATE) for key in KEYS)), ()))
        self.assertTrue(same(lets_book(SETTING, (((0, 0, 0), LATE), ((2, 0, 0), ("done", 1)))), (("box", 1),)))

    def test_late_and_done_in_one_cell(self):
        thing = (((1, 1, 0), ("done", 3)), ((1, 0, 0), LATE), ((1, 0, 1), ("done", 6)), ((1, 1, 1), LATE),
                 ((1, 1, 2), ("done", 9)))
        self.assertTrue(same(lets_book(TWO, thing), (("till", 9),)))
        self.refused("answer", 4, thing[:4] + (((1, 1, 2), ("done", 12)),), TWO)
        self.refused("answer", 2, thing[:2] + (((1, 0, 1), ("done", 9)),), TWO)

    def test_shape(self):
        for thing in (list(BOOK), BOOK[:2] + (list(BOOK[2]),), BOOK[:2] + (BOOK[2] + (0,),), BOOK[:2] + (BOOK[2][:1],),
                      BOOK + ((),), BOOK + (None,), BOOK + ("ab",), BOOK + (0,), BOOK[0], None, True, 0, "book", []):
            self.refused("shape", -1, thing)
        for thing in ODD_THINGS:
            if thing != () or isinstance(thing, list):
                self.refused("shape", -1, thing)

    def test_key(self):
        for key in NO_KEYS:
            self.refused("key", 0, ((key, LATE),))
            self.refused("key", 2, BOOK[:2] + ((key, LATE),) + BOOK[2:])
        for thing in ODD_THINGS:
            self.refused("key", 6, BOOK + ((thing, LATE),))

    def test_a_pair_that_stands_twice(self):
        for i in range(1, len(BOOK) + 1):
            for k in range(i):
                self.refused("key", i, BOOK[:i] + (BOOK[k],) + BOOK[i:])
                self.refused("key", i, BOOK[:i] + ((BOOK[k][0], LATE),) + BOOK[i:])

    def test_turn(self):
        self.refused("turn", 0, (((0, 0, 1), LATE),))
        self.refused("turn", 0, (((0, 0, 3), LATE), ((0, 0, 0), LATE)))
        self.refused("turn", 1, (((0, 0, 0), LATE), ((0, 0, 2), LATE), ((0, 0, 1), LATE)))
        self.refused("turn", 2, (((1, 0, 0), LATE), ((1, 1, 0), LATE), ((1, 0, 2), LATE)), TWO)
        self.refused("turn", 2, (((1, 0, 0), LATE), ((1, 0, 1), LATE), ((1, 1, 1), LATE)), TWO)

    def test_answer(self):
        for answer in (("late", 1), ("late", "late"), ["late"], "late", ("Late",), (), ("done",), ("done", 6),
                       ("done", 4), ("done", 0), ("done", -5), ("done", "5"), ("done", 5, 5), ["done", 5],
                       ("done", (5,)), ("done", None), (5, "done"), ("done", HUGE), None, 5, True, ("tell", 5)):
            self.refused("answer", 0, (((0, 0, 0), answer),))
        for answer in ODD_THINGS:
            self.refused("answer", 5, BOOK[:5] + ((BOOK[5][0], answer),))
        # A truth is no 1.
        self.assertEqual(lets_book(SETTING, (((2, 0, 0), ("done", 1)),)), (("box", 1),))
        self.refused("answer", 0, (((2, 0, 0), ("done", True)),))

    def test_a_sum_that_is_one_too_much(self):
        for i, (key, answer) in enumerate(BOOK):
            if answer != LATE:
                for other in (answer[1] + 1, answer[1] - 1):
                    self.refused("answer", i, BOOK[:i] + ((key, ("done", other)),) + BOOK[i + 1:])

    def test_a_cell_with_one_left_out(self):
        late = ((BOOK[0][0], LATE),) + BOOK[1:]
        self.refused("answer", 5, late)
        self.assertEqual(lets_book(SETTING, late[:5] + (((0, 0, 3), ("done", 7)),)),
                         (("box", 1), ("safe", 6), ("till", 7)))

    def test_the_first_told_goes(self):
        bad_key, bad_turn, bad_answer = ((9, 0, 0), None), ((0, 0, 2), None), ((0, 0, 0), None)
        self.refused("shape", -1, (bad_key, bad_turn, bad_answer, ()))
        self.refused("key", 0, (bad_key, bad_turn, bad_answer))
        self.refused("turn", 0, (bad_turn, bad_key, bad_answer))
        self.refused("answer", 0, (bad_answer, bad_turn, bad_key))
        # One that stands ahead is none that has another turn.
        self.refused("key", 2, BOOK[:1] + (((0, 0, 1), LATE), ((0, 0, 0), None)))
        self.refused("turn", 1, BOOK[:1] + (((0, 0, 3), ("done", 0)), bad_key))
        self.refused("answer", 1, BOOK[:1] + (((0, 0, 1), ("done", 7)), bad_key))

    def test_one_part_otherwise(self):
        for thing in spoiled(BOOK):
            # What lacks a KEY behind which none of its GROUP or cell stands is a BOOK.
            if thing in (BOOK[:5], BOOK[:4] + BOOK[5:]):
                continue
            with self.assertRaises(NoPaper, msg=thing):
                lets_book(SETTING, thing)

    def test_many_right_ones(self):
        chance = random.Random(54)
        twos = [(1, g, n) for g in range(2) for n in range(4)]
        for setting, keys in ((SETTING, KEYS), (TWO, twos)):
            for _ in range(300):
                book, cells = book_made(chance, setting, keys)
                before = copy.deepcopy(book)
                self.assertTrue(same(lets_book(setting, book), cells))
                self.assertTrue(same(book, before))

    def test_many_others(self):
        chance = random.Random(55)
        twos = [(1, g, n) for g in range(2) for n in range(4)]
        told = set()
        for setting, keys in ((SETTING, KEYS), (TWO, twos)):
            for _ in range(2000):
                book = list(book_made(chance, setting, keys)[0])
                for _ in range(chance.randrange(1, 3)):
                    if book:
                        self.turn_one(chance, book)
                refusal = plain_refusal(setting, keys, tuple(book))
                told.add(refusal and refusal[0])
                if refusal is None:
                    lets_book(setting, tuple(book))
                else:
                    self.refused(*refusal, tuple(book), setting)
        self.assertEqual(told, {None, "key", "turn", "answer"})

    def turn_one(self, chance, book):
        i, j = chance.randrange(len(book)), chance.randrange(len(book))
        key, answer = book[i]
        book[i] = chance.choice((book[j], (key, ("done", chance.randrange(15))), (key, LATE),
                                 ((*key[:2], chance.randrange(4)), answer)))
        book[j], book[i] = book[i], book[j]

    def test_the_book_of_a_house(self):
        # [51], [67]: what is told is handed in again.
        house = ((), (), ())
        for clock, key in enumerate(KEYS * 2):
            cell, number, span = call_of(SETTING, key)
            house, _, _ = asked(SETTING, house, clock, ("ask", key, cell, number, span, 0))
            self.assertEqual(lets_book(SETTING, house[1]), house[0])


if __name__ == "__main__":
    unittest.main()

import copy
import random
import unittest

from plain import PlainHouse, setting_made
from things import HUGE, KEYS, NO_KEYS, ODD_THINGS, SETTING, same, spoiled

from twicecalls.books import lets_book
from twicecalls.errors import CallError, NoPaper
from twicecalls.linechecker import lets_line
from twicecalls.settings import call_of, keys_of

TICK, LATE = ("tick",), ("late",)
FIRST, SECOND, THIRD, OTHER, BOX = (0, 0, 0), (0, 0, 1), (0, 0, 2), (0, 2, 0), (2, 0, 0)
# SETTING's: till 5 of span 20, till 1 of span 0, safe 2 of 3, till 7 of 1; safe 4 of 9; box 1 of 0. Its window is 2.
LINE = (("try", FIRST), ("try", OTHER), TICK, ("try", SECOND), ("come", FIRST), TICK, ("try", THIRD),
        ("come", SECOND), ("try", BOX), TICK, TICK, TICK, ("come", THIRD), ("come", OTHER))
BOOK = ((FIRST, ("done", 5)), (SECOND, LATE), (THIRD, ("done", 2)), (OTHER, ("done", 6)))


def plain_refusal(setting, line):
    """The first refusal of a tuple: each thing by a look at all those ahead of it."""
    keys = keys_of(setting)
    for i, entry in enumerate(line):
        if entry == TICK:
            continue
        if not isinstance(entry, tuple) or len(entry) != 2 or entry[0] not in ("try", "come"):
            return ("entry", i)
        word, key = entry
        if not any(same(key, one) for one in keys):
            return ("entry", i)
        ahead = [other for other in line[:i] if other != TICK]
        if key[2] != len([other for other in ahead if other[0] == word and other[1][:2] == key[:2]]):
            return ("turn", i)
        if word == "come" and ("try", key) not in ahead:
            return ("tried", i)
        came = len([other for other in ahead if other[0] == "come" and other[1][:2] == key[:2]])
        if word == "try" and not key[2] < came + setting[1]:
            return ("window", i)
    return None


def plain_book(setting, line):
    """The BOOK of a LINE, as a house has it to which its "asks" come in this order."""
    house, clock, last_of = PlainHouse(setting[1]), 0, {}
    for word, *key in line:
        if word == "tick":
            clock += 1
        elif word == "try":
            last_of[key[0]] = clock + call_of(setting, key[0])[2]
        else:
            cell, number, _ = call_of(setting, key[0])
            house.ask(clock, ("ask", key[0], cell, number, last_of[key[0]], 0))
    return tuple(house.book.items())


def line_made(chance, setting, many):
    """A LINE: at each place any thing that can stand there."""
    line, tried, came = [], {}, {}
    for _ in range(many):
        can = [("try", key) for key in keys_of(setting)
               if key[2] == tried.get(key[:2], 0) and key[2] < came.get(key[:2], 0) + setting[1]]
        can += [("come", (*pair, came.get(pair, 0))) for pair in tried if came.get(pair, 0) < tried[pair]]
        entry = chance.choice(can + [TICK] * (1 + len(can) // 3))
        line.append(entry)
        if entry != TICK:
            counts = tried if entry[0] == "try" else came
            counts[entry[1][:2]] = counts.get(entry[1][:2], 0) + 1
    return tuple(line)


class TestLetsLine(unittest.TestCase):
    def refused(self, word, at, thing, setting=SETTING):
        with self.assertRaises(NoPaper) as caught:
            lets_line(setting, thing)
        self.assertIsInstance(caught.exception, CallError)
        self.assertTrue(same((caught.exception.word, caught.exception.at), (word, at)), (vars(caught.exception), thing))

    def test_of_nothing_and_of_ticks_alone(self):
        self.assertTrue(same(lets_line(SETTING, ()), ()))
        self.assertTrue(same(lets_line(SETTING, (TICK,)), ()))
        self.assertTrue(same(lets_line(SETTING, (TICK,) * 200), ()))
        self.assertTrue(same(lets_line(((((), (0, 1), (0, 1)),), 1, 1), (TICK,)), ()))

    def test_a_line(self):
        self.assertTrue(same(lets_line(SETTING, LINE), BOOK))
        self.assertTrue(same(lets_line(thing=LINE, setting=SETTING), BOOK))
        for many in range(len(LINE)):
            told = lets_line(SETTING, LINE[:many])
            self.assertTrue(same(told, BOOK[:len(told)]))

    def test_tried_but_not_come(self):
        self.assertTrue(same(lets_line(SETTING, (("try", FIRST), ("try", SECOND), ("try", BOX))), ()))

    def test_late_and_done_just_at_its_span(self):
        for key, span in ((SECOND, 0), (THIRD, 3), (OTHER, 9), (FIRST, 20), (BOX, 0)):
            cell, number, told_span = call_of(SETTING, key)
            self.assertEqual(span, told_span)
            ahead = tuple((word, (*key[:2], n)) for n in range(key[2]) for word in ("try", "come"))
            many = len(lets_line(SETTING, ahead))
            for ticks in (0, span, span + 1, 90):
                line = ahead + (TICK,) * 5 + (("try", key),) + (TICK,) * ticks + (("come", key),) + (TICK,) * 50
                answer = lets_line(SETTING, line)[many]
                self.assertEqual(answer[0], key)
                self.assertEqual(answer[1] == LATE, ticks > span)

    def test_one_late_and_one_done_in_one_cell(self):
        line = (("try", FIRST), ("try", SECOND), TICK, ("come", FIRST), ("come", SECOND), ("try", THIRD),
                ("come", THIRD), ("try", (0, 0, 3)), TICK, ("come", (0, 0, 3)))
        self.assertTrue(same(lets_line(SETTING, line), (
            (FIRST, ("done", 5)), (SECOND, LATE), (THIRD, ("done", 2)), ((0, 0, 3), ("done", 12)))))

    def test_shape(self):
        for thing in (list(LINE), [], "tick", "", None, True, 0, -1):
            self.refused("shape", -1, thing)
        for thing in ODD_THINGS:
            if not isinstance(thing, tuple):
                self.refused("shape", -1, thing)

    def test_entry(self):
        for entry in (["tick"], ("tick", 0), ("Tick",), "tick", ("tick", FIRST), (), None, True, 0, ("try",),
                      ("try", FIRST, 0), ["try", FIRST], ("Try", FIRST), ("go", FIRST), ("", FIRST), (None, FIRST),
                      (["try"], FIRST), ("come",), ("come", FIRST, 0), ("first", FIRST), (FIRST, "try"), FIRST,
                      (("tick",),)):
            self.refused("entry", 0, (entry,))
            self.refused("entry", 5, LINE[:5] + (entry,) + LINE[5:])
        for thing in ODD_THINGS:
            self.refused("entry", 1, LINE[:1] + (thing,))
            for word in ("try", "come"):
                self.refused("entry", 1, LINE[:1] + ((word, thing),))
        for key in NO_KEYS:
            for word in ("try", "come"):
                self.refused("entry", 0, ((word, key),))
        # A tuple of no entries at all.
        self.refused("entry", 0, TICK)
        self.refused("entry", 0, LINE[0])

    def test_turn(self):
        self.refused("turn", 0, (("try", SECOND),))
        self.refused("turn", 0, (("come", SECOND),))
        self.refused("turn", 1, (("try", FIRST), ("try", FIRST)))
        self.refused("turn", 2, (("try", FIRST), ("come", FIRST), ("come", FIRST)))
        self.refused("turn", 2, (("try", FIRST), ("come", FIRST), ("try", FIRST)))
        self.refused("turn", 2, (("try", FIRST), ("try", SECOND), ("come", SECOND)))
        self.refused("turn", 2, (("try", FIRST), ("come", FIRST), ("try", THIRD)))
        # Each GROUP has its own turn.
        self.refused("turn", 2, (("try", OTHER), ("come", OTHER), ("try", SECOND)))
        self.refused("turn", 1, (("try", OTHER), ("try", SECOND)))

    def test_tried(self):
        self.refused("tried", 0, (("come", FIRST),))
        self.refused("tried", 2, (("try", FIRST), ("come", FIRST), ("come", SECOND)))
        self.refused("tried", 2, (("try", BOX), TICK, ("come", FIRST), ("try", FIRST)))

    def test_window(self):
        self.refused("window", 2, (("try", FIRST), ("try", SECOND), ("try", THIRD)))
        self.refused("window", 4, (("try", FIRST), ("try", SECOND), ("come", FIRST), ("try", THIRD),
                                   ("try", (0, 0, 3))))
        group = (("till", 1, 1),) * 5
        for window in range(1, 6):
            setting = ((((group, group), (1, 1), (1, 1)),), window, 1)
            line = tuple(("try", (0, 0, n)) for n in range(5))
            if window < 5:
                self.refused("window", window, line, setting)
                # What came of another GROUP counts for nothing.
                other = (("try", (0, 1, 0)), ("come", (0, 1, 0)))
                self.refused("window", window + 2, other + line, setting)
            else:
                self.assertEqual(lets_line(setting, line), ())

    def test_the_first_told_goes(self):
        bad_entry, bad_turn, bad_tried = ("go", 0), ("try", THIRD), ("come", FIRST)
        self.refused("shape", -1, [bad_entry, bad_turn])
        self.refused("entry", 0, (bad_entry, bad_turn, bad_tried))
        self.refused("turn", 0, (bad_turn, bad_tried, bad_entry))
        self.refused("tried", 0, (bad_tried, bad_turn, bad_entry))
        # Neither its turn nor tried; neither its turn nor within the window.
        self.refused("turn", 0, (("come", THIRD),))
        self.refused("turn", 0, (("try", (0, 0, 3)),))
        self.refused("window", 2, (("try", FIRST), ("try", SECOND), ("try", THIRD), bad_entry))

    def test_one_part_otherwise(self):
        for thing in spoiled(LINE[:9]):
            why = plain_refusal(SETTING, thing) if isinstance(thing, tuple) else ("shape", -1)
            if why is None:
                self.assertTrue(same(lets_line(SETTING, thing), plain_book(SETTING, thing)))
            else:
                self.refused(*why, thing)

    def test_many_right_ones(self):
        chance, seen = random.Random(57), set()
        for setting in [SETTING] * 40 + [setting_made(chance) for _ in range(80)]:
            line = line_made(chance, setting, 25)
            before = copy.deepcopy(line)
            told = lets_line(setting, line)
            self.assertTrue(same(line, before))
            self.assertIsNone(plain_refusal(setting, line))
            self.assertTrue(same(told, plain_book(setting, line)))
            seen |= {answer[0] for _, answer in told}
            # [67]: its BOOK is handed in again.
            self.assertEqual(len(lets_book(setting, told)),
                             len({call_of(setting, key)[0] for key, answer in told if answer != LATE}))
        self.assertEqual(seen, {"done", "late"})

    def test_many_others(self):
        chance, seen = random.Random(58), set()
        for _ in range(1500):
            line = list(line_made(chance, SETTING, chance.randrange(1, 9)))
            for _ in range(chance.randrange(1, 3)):
                word, key = chance.choice(("try", "come")), chance.choice(KEYS + ((0, 0, HUGE),))
                line.insert(chance.randrange(len(line) + 1), (word, key))
            why = plain_refusal(SETTING, tuple(line))
            seen.add(why and why[0])
            if why is None:
                self.assertTrue(same(lets_line(SETTING, tuple(line)), plain_book(SETTING, line)))
            else:
                self.refused(*why, tuple(line))
        self.assertEqual(seen, {None, "entry", "turn", "tried", "window"})


if __name__ == "__main__":
    unittest.main()

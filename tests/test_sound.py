import copy
import math
import random
import unittest
from fractions import Fraction

from plain import PlainRun, made_run, many_runs
from things import HUGE, ODD_THINGS, same, spoiled
from things import SETTING as OTHER_SETTING

from twicecalls.books import lets_book
from twicecalls.runs import run
from twicecalls.sound import is_sound
from twicecalls.states import begun
from twicecalls.steps import stepped

GROUP = (("till", 5, 4), ("safe", 2, 0), ("till", 1, 9), ("till", 3, 9), ("safe", 4, 9), ("till", 2, 9))
SETTING = ((((GROUP, (), (("box", 3, 5), ("box", 1, 5))), (1, 2), (4, 1)), (((("box", 2, 9),),), (1, 3), (1, 1))),
           3, 2)
DONE, LATE = ("done", 5), ("late",)
# STEPS come to it: some heard, some owed, some waiting at the house, LETTERS of all that on both LANES.
STATE = (
    5,
    (((3, 1), 8, ((2, ((0, 0, 0, DONE), (0, 0, 1, LATE), (1, 5, 1, None), (1, 1, 1, None), (3, 3, 0, None))),
                  (0, ()),
                  (0, ((3, 3, 1, None), (3, 3, 0, None))))),
     ((1, 1), 1, ((0, ((3, 3, 0, None),)),))),
    ((("ask", (0, 0, 2), "till", 1, 10, 1), ("ask", (0, 0, 4), "safe", 4, 12, 2), ("tell", (1, 0, 0), DONE),
      ("ask", (0, 2, 1), "box", 1, 8, 0)),
     (("ask", (0, 0, 3), "till", 3, 10, 1), ("ask", (0, 0, 2), "till", 1, 10, 2))),
    ((("box", 5), ("till", 5)),
     (((0, 0, 0), DONE), ((0, 0, 1), LATE), ((0, 2, 0), ("done", 3)), ((1, 0, 0), DONE)),
     (((0, 0), 2, 2, (), ((3, "till", 3, 10), (4, "safe", 4, 12))),
      ((0, 2), 1, 0, (("done", 3),), ()),
      ((1, 0), 1, 0, (DONE,), ()))),
)
CALLS, LANE, BOOK, ENTRIES = (1, 0, 2, 0, 1), (2, 0), (3, 1), (3, 2)


def put(thing, path, part):
    """A thing like this one, but for the part at a path."""
    if path == ():
        return part
    k = path[0]
    return thing[:k] + (put(thing[k], path[1:], part),) + thing[k + 1:]


def part_at(thing, path):
    for k in path:
        thing = thing[k]
    return thing


def paths_in(thing):
    yield ()
    if isinstance(thing, tuple):
        for k, part in enumerate(thing):
            for path in paths_in(part):
                yield (k, *path)


def look(fits):
    if not fits:
        raise ValueError


def row(thing, many=None):
    look(isinstance(thing, tuple) and many in (None, len(thing)))
    return thing


def number(thing, least=0):
    look(thing.__class__ is int and thing >= least)
    return thing


def fraction(thing):
    over, under = row(thing, 2)
    look(math.gcd(number(over), number(under, 1)) == 1)
    return Fraction(over, under)


def answer(thing):
    look(same(thing, LATE) or (row(thing, 2)[0] == "done" and number(thing[1]) >= 0))
    return thing


class Plain:
    """[49] once more, clause by clause, by refusing."""

    def __init__(self, setting, state):
        self.setting, (callers, self.window, _) = setting, setting
        self.clock, rows, lanes, house = row(state, 4)
        number(self.clock)
        self.spans = {(c, g, n): call for c, (groups, _, _) in enumerate(callers) for g, group in enumerate(groups)
                      for n, call in enumerate(group)}
        self.tried, self.heard, self.answers = {}, {}, {}
        self.look_at_book(*row(house, 3))
        for c, (caller, told) in enumerate(zip(callers, row(rows, len(callers)))):
            self.look_at_caller(c, caller, *row(told, 3))
        for entry in house[2]:
            self.look_at_entry(*entry)
        for lane in row(lanes, 2):
            for letter in row(lane):
                self.look_at_letter(row(letter))

    def look_at_book(self, cells, book, entries):
        sums = {}
        for key, told in map(lambda pair: row(pair, 2), row(book)):
            [number(part) for part in row(key, 3)]
            look(key in self.spans and key not in self.answers)
            look(key[2] == len([other for other in self.answers if other[:2] == key[:2]]))
            self.answers[key] = answer(told)
            if told != LATE:
                cell, worth, _ = self.spans[key]
                sums[cell] = sums.get(cell, 0) + worth
                look(told[1] == sums[cell])
        look(same(cells, tuple(sorted(sums.items()))))
        pairs = [tuple(map(number, row(entry[0], 2))) for entry in map(lambda entry: row(entry, 5), row(entries))]
        look(pairs == sorted(set(pairs)) and {key[:2] for key in self.answers} <= set(pairs))
        look(all((*pair, 0) in self.spans for pair in pairs))

    def look_at_caller(self, c, caller, purse, tries, groups):
        look(fraction(purse) <= fraction(caller[2]))
        for g, (group, told) in enumerate(zip(caller[0], row(groups, len(caller[0])))):
            heard, calls = row(told, 2)
            look(len(row(calls)) <= len(group))
            without = [n for n, call in enumerate(calls) if row(call, 4)[3] is None]
            look(number(heard) == min(without + [len(calls)]))
            self.heard[(c, g)] = heard
            for n, (first, last_try, lane, told) in enumerate(calls):
                look(number(first) <= number(last_try) <= self.clock and number(lane) < 2)
                look(told is None or same(answer(told), self.answers[(c, g, n)]))
                self.tried[(c, g, n)] = first
        look(number(tries) >= len([key for key in self.tried if key[0] == c]))

    def look_at_entry(self, pair, turn, floor, kept, waiting):
        told = [self.answers[key] for key in sorted(self.answers) if key[:2] == pair]
        look(number(turn) == len(told) and number(floor) <= self.heard[pair])
        look(same(kept, tuple(told[floor:])))
        ahead = turn
        for call in row(waiting):
            n, cell, worth, last = row(call, 4)
            look(ahead < number(n) < floor + self.window)
            look(same(call, (n, *self.spans[(*pair, n)][:2], self.last((*pair, n)))))
            ahead = n

    def look_at_letter(self, letter):
        if letter[0] == "tell":
            look(same(letter, ("tell", letter[1], self.answers[self.key(letter[1])])))
        else:
            _, key, cell, worth, last, heard = letter
            look(number(heard) <= self.heard[self.key(key)[:2]])
            look(same(letter[:5], ("ask", key, *self.spans[key][:2], self.last(key))))

    def key(self, key):
        for part in row(key, 3):
            number(part)
        return key

    def last(self, key):
        return self.tried[key] + self.spans[key][2]


def plain_sound(setting, state):
    try:
        Plain(setting, state)
        return True
    except (ValueError, TypeError, KeyError, IndexError, AttributeError):
        return False


class Sound(unittest.TestCase):
    def check(self, told, thing, setting=SETTING):
        before = copy.deepcopy((setting, thing))
        self.assertIs(is_sound(setting, thing), told, thing)
        self.assertTrue(same((setting, thing), before))

    def unsound(self, path, *parts):
        for part in parts:
            thing = put(STATE, path, part)
            self.assertFalse(same(thing, STATE))
            self.check(False, thing)

    def sound(self, path, *parts):
        for part in parts:
            self.check(True, put(STATE, path, part))


class TestSound(Sound):
    def test_at_the_beginning_and_later(self):
        self.check(True, begun(SETTING))
        self.check(True, STATE)
        self.assertIs(is_sound(thing=STATE, setting=SETTING), True)
        self.check(True, begun(OTHER_SETTING), OTHER_SETTING)

    def test_behind_steps_of_every_word(self):
        words = set()
        for plain in many_runs(random.Random(50), 150, 100):
            words.update(step[0] for step in plain.steps[-1:])
            self.check(True, plain.state(), plain.setting)
        self.assertEqual(words, {"go", "get", "lose", "double", "tick", "tear", "fall"})

    def test_what_is_not_asked(self):
        # Other clocks, more tries, less in the purse; LETTERS gone; whether those of the book were tried.
        self.sound((0,), 6, HUGE)
        self.sound((1, 0, 1), 7, 9, HUGE)
        self.sound((1, 0, 0), (0, 1), (1, 3), (4, 1))
        self.sound((2,), ((), ()))
        self.sound((3, 2, 0, 4), (), ((3, "till", 3, 10),), ((4, "safe", 4, 12),))
        state = put(put(STATE, (1, 1, 2), ((0, ()),)), (2, 0), ())
        self.check(True, state)
        self.check(True, put(state, (2, 0), (("tell", (1, 0, 0), DONE),)))
        # An entry of a GROUP whose "ask" turned nothing.
        state = begun(SETTING)
        self.check(True, put(state, (3, 2), (((0, 0), 0, 0, (), ()), ((1, 0), 0, 0, (), ()))))


class TestKinds(Sound):
    def test_any_things(self):
        for thing in (*ODD_THINGS, (0, (), ((), ()), ((), (), ())), begun(OTHER_SETTING), list(STATE), STATE[:3],
                      STATE + (0,), (STATE,)):
            self.check(False, thing)
        for thing in ODD_THINGS:
            for k in range(4):
                if not same((k, thing), (0, HUGE)):
                    self.unsound((k,), thing)

    def test_one_part_otherwise_at_any_depth(self):
        sound = 0
        for thing in spoiled(STATE):
            told = plain_sound(SETTING, thing)
            sound += told
            self.check(told, thing)
        # Those of fewer or other LETTERS, of fewer that wait.
        self.assertGreater(sound, 3)
        self.assertLess(sound, 40)

    def test_any_thing_at_any_depth(self):
        things = (True, False, None, -1, HUGE, "", "late", (), [], ((),), [0, 0], (0, 0, 0, 0, 0))
        for path in paths_in(STATE):
            for part in things:
                thing = put(STATE, path, part)
                self.assertIs(is_sound(SETTING, thing), plain_sound(SETTING, thing), (path, part))

    def test_a_truth_for_each_number_and_a_list_for_each_tuple(self):
        for path in paths_in(STATE):
            part = part_at(STATE, path)
            if isinstance(part, tuple):
                self.unsound(path, list(part), part + (None,))
            elif isinstance(part, int):
                self.unsound(path, part == 1, part != 1, -1, str(part), None)

    def test_a_truth_for_a_one(self):
        # Where True would do for Python: sums, ANSWERS, numbers, what was heard, all are 1.
        setting = ((((((("a", 1, 1),) * 3),), (1, 1), (1, 1)),), 9, 1)
        steps = (("tick",), ("go", 0), ("get", 0, 0), ("go", 0), ("go", 0), ("get", 0, 1), ("get", 0, 0), ("get", 1, 0),
                 ("tick",), ("go", 0), ("get", 0, 0))
        for k in range(len(steps) + 1):
            state, _ = run(setting, steps[:k])
            self.check(True, state, setting)
            for path in paths_in(state):
                part = part_at(state, path)
                if isinstance(part, int) and part < 2:
                    thing = put(state, path, bool(part))
                    self.assertEqual(thing, state)
                    self.check(False, thing, setting)

    def test_as_many_callers_and_groups(self):
        self.unsound((1,), STATE[1][:1], STATE[1] + STATE[1][1:], ())
        self.unsound((1, 0, 2), STATE[1][0][2][:2], STATE[1][0][2] + ((0, ()),))
        self.unsound((1, 1, 2), ())

    def test_no_more_calls(self):
        more = (5, 5, 0, None)
        self.sound((1, 0, 2, 0, 1), STATE[1][0][2][0][1] + (more,))
        self.unsound((1, 0, 2, 0, 1), STATE[1][0][2][0][1] + (more, more))
        self.unsound((1, 0, 2, 1, 1), (more,))
        self.unsound((1, 0, 2, 2, 1), STATE[1][0][2][2][1] + (more,))

    def test_keys_of_another_setting_and_letters_not_of_it(self):
        self.check(False, STATE, OTHER_SETTING)
        self.check(False, STATE, put(SETTING, (0, 0, 0, 0, 0), ("till", 6, 4)))
        self.check(False, STATE, put(SETTING, (0, 0, 0, 0, 0), ("safe", 5, 4)))
        self.unsound((*BOOK, 3, 0), (2, 0, 0), (1, 1, 0), (1, 0, 1), (0, 1, 0), [1, 0, 0], (True, 0, 0))
        for key in ((0, 0, 6), (0, 1, 0), (2, 0, 0), (True, 0, 0), (1, 0, False), [1, 0, 0]):
            self.unsound((*LANE, 2, 1), key)
            self.unsound((*LANE, 0, 1), key)
        self.unsound((*LANE, 0, 2), "safe", "Till", "")
        self.unsound((*LANE, 0, 3), 2, 0)


class TestCallers(Sound):
    def test_clock_last_try_first(self):
        self.unsound((0,), 4, 0)
        self.unsound((*CALLS, 2, 1), 6, 0)
        self.sound((*CALLS, 2, 1), 1, 4)
        self.unsound((*CALLS, 0, 0), 1)
        self.sound((*CALLS, 0), (1, 1, 0, DONE), (0, 5, 1, DONE), (5, 5, 1, DONE))
        self.unsound((*CALLS, 0), (6, 6, 0, DONE))

    def test_heard(self):
        self.unsound((1, 0, 2, 0, 0), 0, 1, 3, 5, HUGE)
        self.unsound((1, 0, 2, 1, 0), 1)
        self.unsound((1, 0, 2, 2, 0), 1, 2)

    def test_heard_up_to_the_first_gap(self):
        heard, had = (1, 0, 2, 2), ((3, 3, 1, None), (3, 3, 0, ("done", 6)))
        state = put(STATE, BOOK, STATE[3][1] + (((0, 2, 1), ("done", 6)),))
        state = put(state, (3, 0, 0), ("box", 6))
        state = put(state, (*ENTRIES, 1), ((0, 2), 2, 0, (("done", 3), ("done", 6)), ()))
        self.check(True, state)
        self.check(True, put(state, heard, (0, had)))
        self.check(False, put(state, heard, (1, had)))
        self.check(True, put(state, heard, (2, ((3, 3, 1, ("done", 3)), had[1]))))

    def test_purses_above_most(self):
        self.unsound((1, 0, 0), (5, 1), (401, 100), (HUGE, 1), (2, 2), (0, 2), (3, 0))
        self.unsound((1, 1, 0), (2, 1), (HUGE, HUGE - 1))

    def test_tries_fewer_than_calls_tried(self):
        self.unsound((1, 0, 1), 6, 5, 0)
        self.unsound((1, 1, 1), 0)

    def test_answers_that_the_book_has_not(self):
        self.unsound((*CALLS, 0, 3), LATE, ("done", 6), ("done", 0), ("done",), ("late", 0), "late")
        self.unsound((*CALLS, 1, 3), ("done", 7), DONE)
        # Of one that isn't decided.
        self.unsound((*CALLS, 3, 3), LATE, ("done", 8))
        self.unsound((1, 0, 2, 2), (1, ((3, 3, 1, LATE), (3, 3, 0, None))))
        self.sound((1, 0, 2, 2), (1, ((3, 3, 1, ("done", 3)), (3, 3, 0, None))))


class TestHouse(Sound):
    def test_the_book_twice(self):
        book = STATE[3][1]
        self.unsound(BOOK, book + book[-1:], book[:1] + book, book[:2] + book[1:])
        state = put(STATE, BOOK, book + book[-1:])
        state = put(put(state, (3, 0, 0), ("box", 7)), (*BOOK, 4, 1), ("done", 7))
        self.check(False, state)
        self.check(False, put(state, (*ENTRIES, 2), ((1, 0), 2, 0, (DONE, ("done", 7)), ())))

    def test_the_book_out_of_order(self):
        book = STATE[3][1]
        self.unsound(BOOK, (book[1], book[0], *book[2:]))
        # Of other GROUPS it doesn't matter, but for the sums.
        self.sound(BOOK, (book[2], book[0], book[3], book[1]), (book[0], book[2], book[3], book[1]))
        self.unsound(BOOK, (book[0], book[1], book[3], book[2]))

    def test_the_book_with_a_hole(self):
        state = put(STATE, (*BOOK, 1, 0), (0, 0, 2))
        self.check(False, state)
        self.check(False, put(STATE, (*BOOK, 0, 0), (0, 0, 5)))
        # Without its first one, all else as that would have it.
        state = put(STATE, BOOK, STATE[3][1][1:])
        self.check(False, put(put(state, (3, 0), (("box", 5),)), (*ENTRIES, 0, 1), 1))

    def test_the_book_of_a_group_that_the_house_has_not(self):
        for k in range(3):
            self.unsound(ENTRIES, STATE[3][2][:k] + STATE[3][2][k + 1:])
        self.unsound(ENTRIES, ())

    def test_next(self):
        for k, turn in ((0, 1), (0, 3), (0, 0), (1, 0), (1, 2), (2, 0), (2, HUGE)):
            self.unsound((*ENTRIES, k, 1), turn)
        # With ANSWERS as many.
        self.unsound((*ENTRIES, 2), ((1, 0), 2, 0, (DONE, DONE), ()), ((1, 0), 0, 0, (), ()))

    def test_groups_of_the_house(self):
        entries = STATE[3][2]
        self.unsound(ENTRIES, (entries[1], entries[0], entries[2]), entries + entries[2:], entries[:1] + entries,
                     entries + (((2, 0), 0, 0, (), ()),), entries[:1] + (((0, 3), 0, 0, (), ()),) + entries[1:])
        # A GROUP without CALLS.
        self.unsound(ENTRIES, entries[:1] + (((0, 1), 0, 0, (), ()),) + entries[1:])
        self.unsound((*ENTRIES, 2, 0), [1, 0], (True, 0), (1, False), (1,), (1, 0, 0), (1, 1), (-1, 0), (HUGE, 0))

    def test_answers(self):
        self.unsound((*ENTRIES, 0, 3), (LATE,), (DONE, LATE), [], None)
        self.unsound((*ENTRIES, 1, 3), (), (("done", 3), ("done", 3)), (LATE,), (("done", 4),), (["done", 3],))
        self.sound((*ENTRIES, 0), ((0, 0), 2, 1, (LATE,), ((3, "till", 3, 10),)), ((0, 0), 2, 0, (DONE, LATE), ()))
        self.unsound((*ENTRIES, 0), ((0, 0), 2, 1, (DONE,), ()), ((0, 0), 2, 1, (), ()), ((0, 0), 2, 0, (LATE,), ()))

    def test_floor_above_heard(self):
        self.unsound((*ENTRIES, 1), ((0, 2), 1, 1, (), ()), ((0, 2), 1, HUGE, (), ()))
        self.unsound((*ENTRIES, 0, 2), 3, HUGE)

    def test_the_sums_and_the_cells(self):
        self.unsound((3, 0), (), (("box", 5),), (("box", 5), ("till", 6)), (("till", 5), ("box", 5)),
                     (("box", 5), ("safe", 0), ("till", 5)), (("box", 5), ("till", 5), ("till", 5)), [], None,
                     (("box", 5), ("till", 5, 0)), (("box", 5), ["till", 5]))
        self.unsound((*BOOK, 0, 1), ("done", 4), LATE, ("done", True), ("done",), "late")
        # An ANSWER and all that hang on it.
        state = put(put(STATE, (*BOOK, 3, 1), ("done", 2)), (*ENTRIES, 2, 3), (("done", 2),))
        state = put(state, (*LANE, 2, 2), ("done", 2))
        self.check(False, state)
        self.check(False, put(state, (3, 0, 0), ("box", 2)))


class TestWaiting(Sound):
    WAITING = (*ENTRIES, 0, 4)

    def test_above_next_below_floor_and_window(self):
        self.unsound((*self.WAITING, 0), (2, "till", 1, 10), (1, "safe", 2, 0), (0, "till", 5, 4))
        self.unsound((*self.WAITING,), ((2, "till", 1, 10),))
        # n 4 is not below floor 1 and window 3.
        self.unsound((*ENTRIES, 0), ((0, 0), 2, 1, (LATE,), ((4, "safe", 4, 12),)))
        state = put(STATE, (*CALLS,), STATE[1][0][2][0][1] + ((5, 5, 0, None),))
        self.check(True, state)
        self.check(False, put(state, self.WAITING, ((5, "till", 2, 14),)))

    def test_of_calls_tried(self):
        self.check(False, put(STATE, (*CALLS,), STATE[1][0][2][0][1][:4]))
        self.check(False, put(put(STATE, (*CALLS,), STATE[1][0][2][0][1][:4]), (2,), ((), ())))
        state = put(put(STATE, (2,), ((), ())), self.WAITING, ((3, "till", 3, 10),))
        self.check(True, put(state, CALLS, STATE[1][0][2][0][1][:4]))
        self.check(False, put(state, CALLS, STATE[1][0][2][0][1][:3]))

    def test_with_their_cell_number_and_last(self):
        self.unsound((*self.WAITING, 0), (3, "safe", 3, 10), (3, "till", 4, 10), (3, "till", 3, 9), (3, "till", 3, 11),
                     (3, "till", 3), (3, "till", 3, 10, 0), (3, None, 3, 10), [3, "till", 3, 10])

    def test_rising(self):
        one, other = STATE[3][2][0][4]
        self.unsound(self.WAITING, (other, one), (one, one), (one, one, other), (one, other, other))


class TestLetters(Sound):
    def test_tells_that_the_book_has_not(self):
        self.unsound((*LANE, 2), ("tell", (1, 0, 0), ("done", 2)), ("tell", (1, 0, 0), LATE), ("tell", (0, 2, 1), LATE),
                     ("tell", (0, 0, 2), ("done", 6)), ("tell", (0, 0, 0), LATE))
        self.sound((*LANE, 2), ("tell", (0, 0, 0), DONE), ("tell", (0, 0, 1), LATE), ("tell", (0, 2, 0), ("done", 3)))

    def test_asks_of_calls_not_tried(self):
        self.unsound((*LANE, 1), ("ask", (0, 0, 5), "till", 2, 14, 0))
        state = put(STATE, (1, 1, 2), ((0, ()),))
        self.check(True, state)
        self.check(False, put(state, (*LANE, 0), ("ask", (1, 0, 0), "box", 2, 12, 0)))

    def test_asks_of_another_last(self):
        self.unsound((*LANE, 0, 4), 9, 11, 1, 0)
        self.unsound((2, 1, 0, 4), 9, 11)
        self.unsound((*CALLS, 2, 0), 0, 2)

    def test_asks_that_heard_too_much(self):
        self.sound((*LANE, 0, 5), 0, 1, 2)
        self.unsound((*LANE, 0, 5), 3, HUGE)
        self.unsound((*LANE, 3, 5), 1)


class TestMany(Sound):
    def test_by_a_step_a_sound_one_comes_to_a_sound_one(self):
        chance = random.Random(51)
        words = ("get", "lose", "double")
        states = [STATE, put(put(STATE, (1, 1, 2), ((0, ()),)), (2, 0), (("tell", (1, 0, 0), DONE),))]
        for state in states:
            for _ in range(60):
                behind = state
                for _ in range(60):
                    steps = [("go", 0), ("go", 1), ("tick",), ("fall",), ("tear", chance.randrange(2))]
                    steps += [(chance.choice(words), lane, k) for lane in (0, 1) for k in range(len(behind[2][lane]))]
                    behind, _ = stepped(SETTING, behind, chance.choice(steps))
                    self.assertIs(is_sound(SETTING, behind), True)

    def test_against_a_plain_one(self):
        chance, told = random.Random(52), {True: 0, False: 0}
        for _ in range(120):
            plain = made_run(chance, chance.randrange(80), 0.2)
            state = plain.state()
            paths = [path for path in paths_in(state) if isinstance(part_at(state, path), int)]
            rows = [path for path in paths_in(state) if isinstance(part_at(state, path), tuple)]
            for _ in range(40):
                if chance.random() < 0.5:
                    path = chance.choice(paths)
                    thing = put(state, path, max(0, part_at(state, path) + chance.choice((-1, 1))))
                else:
                    path = chance.choice(rows)
                    part = part_at(state, path)
                    k = chance.randrange(len(part) + 1)
                    thing = put(state, path, chance.choice((part[:k] + part[k + 1:], part + part[k:k + 1],
                                                            part[k:] + part[:k])))
                sound = plain_sound(plain.setting, thing)
                told[sound] += 1
                self.assertIs(is_sound(plain.setting, thing), sound, (plain.setting, thing))
        self.assertGreater(min(told.values()), 500)

    def test_states_of_other_runs(self):
        # Where two runs are mixed, the one's CALLERS with the other's house.
        chance, told = random.Random(53), {True: 0, False: 0}
        for _ in range(150):
            one = made_run(chance, chance.randrange(40))
            other = PlainRun(one.setting)
            for _ in range(chance.randrange(40)):
                other.step(other.any_step(chance, 0.1))
            for k in range(4):
                thing = put(one.state(), (k,), other.state()[k])
                told[plain_sound(one.setting, thing)] += 1
                self.assertIs(is_sound(one.setting, thing), plain_sound(one.setting, thing))
        self.assertGreater(min(told.values()), 100)

    def test_bounds_are_not_looked_at(self):
        # LANES of many LETTERS, great numbers, books as is told of them.
        setting = put(SETTING, (0, 1, 0, 0, 0), ("box", HUGE, HUGE))
        state, _ = run(setting, (("go", 1), ("get", 0, 0)) + (("double", 0, 0),) * 390)
        self.assertEqual(len(state[2][0]), 391)
        self.check(True, state, setting)
        self.check(True, put(state, (0,), HUGE), setting)
        self.assertEqual(lets_book(setting, state[3][1]), (("box", HUGE),))


if __name__ == "__main__":
    unittest.main()

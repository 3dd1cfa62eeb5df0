import copy
import random
import unittest

from plain import PlainHouse
from things import same

from twicecalls.house import asked, fallen

VOID = ((), (), ())
# One CALLER with two GROUPS of six CALLS, one with one of two.
GROUP = (("till", 5, 4), ("safe", 2, 0), ("till", 1, 9), ("safe", 3, 9), ("till", 4, 9), ("till", 6, 9))
SETTING = (
    ((((GROUP), (("box", 1, 3), ("till", 10, 3))), (1, 1), (2, 1)), ((GROUP,), (1, 1), (2, 1))),
    3,
    2,
)


def ask(key, last=9, heard=0):
    cell, number, _ = SETTING[0][key[0]][0][key[1]][key[2]]
    return ("ask", key, cell, number, last, heard)


def done(number):
    return ("done", number)


class TestAsked(unittest.TestCase):
    def check(self, house, clock, letter, behind, tells=(), keys=()):
        before = copy.deepcopy((SETTING, house, clock, letter))
        told = asked(SETTING, house, clock, letter)
        self.assertTrue(same(told, (behind, tells, keys)), told)
        self.assertTrue(same(before, (SETTING, house, clock, letter)))
        return behind

    def test_next(self):
        house = self.check(VOID, 0, ask((0, 0, 0)),
                           ((("till", 5),), (((0, 0, 0), done(5)),), (((0, 0), 1, 0, (done(5),), ()),)),
                           (("tell", (0, 0, 0), done(5)),), ((0, 0, 0),))
        self.check(house, 0, ask((0, 0, 1)),
                   ((("safe", 2), ("till", 5)), (((0, 0, 0), done(5)), ((0, 0, 1), done(2))),
                    (((0, 0), 2, 0, (done(5), done(2)), ()),)),
                   (("tell", (0, 0, 1), done(2)),), ((0, 0, 1),))

    def test_done_at_the_very_tick_and_late_behind_it(self):
        for clock, answer, cells in ((4, done(5), (("till", 5),)), (5, ("late",), ()), (99, ("late",), ())):
            self.check(VOID, clock, ask((0, 0, 0), last=4),
                       (cells, (((0, 0, 0), answer),), (((0, 0), 1, 0, (answer,), ()),)),
                       (("tell", (0, 0, 0), answer),), ((0, 0, 0),))

    def test_late_turns_no_cell(self):
        house = ((("till", 7),), (((1, 0, 0), done(7)),), (((1, 0), 1, 0, (done(7),), ()),))
        self.check(house, 3, ask((0, 0, 0), last=2),
                   ((("till", 7),), (((1, 0, 0), done(7)), ((0, 0, 0), ("late",))),
                    (((0, 0), 1, 0, (("late",),), ()), ((1, 0), 1, 0, (done(7),), ()))),
                   (("tell", (0, 0, 0), ("late",)),), ((0, 0, 0),))

    def test_below_next_is_told_again_and_turns_nothing(self):
        house = asked(SETTING, VOID, 0, ask((0, 0, 0)))[0]
        house = asked(SETTING, house, 5, ask((0, 0, 1), last=4))[0]
        self.check(house, 50, ask((0, 0, 0)), house, (("tell", (0, 0, 0), done(5)),))
        self.check(house, 50, ask((0, 0, 1)), house, (("tell", (0, 0, 1), ("late",)),))

    def test_below_floor_nothing(self):
        house = ((("till", 5),), (((0, 0, 0), done(5)),), (((0, 0), 1, 1, (), ()),))
        self.check(house, 0, ask((0, 0, 0)), house)

    def test_heard_above_floor_forgets(self):
        house = VOID
        for n in range(3):
            house = asked(SETTING, house, 0, ask((0, 0, n)))[0]
        cells, book, _ = house
        self.check(house, 0, ask((0, 0, 2), heard=2),
                   (cells, book, (((0, 0), 3, 2, (done(6),), ()),)), (("tell", (0, 0, 2), done(6)),))
        self.check(house, 0, ask((0, 0, 1), heard=2), (cells, book, (((0, 0), 3, 2, (done(6),), ()),)))
        self.check(house, 0, ask((0, 0, 2), heard=3), (cells, book, (((0, 0), 3, 3, (), ()),)))
        self.check(house, 0, ask((0, 0, 2), heard=0), house, (("tell", (0, 0, 2), done(6)),))

    def test_heard_below_floor_is_let_be(self):
        house = VOID
        for n in range(2):
            house = asked(SETTING, house, 0, ask((0, 0, n)))[0]
        house = asked(SETTING, house, 0, ask((0, 0, 1), heard=1))[0]
        self.assertEqual(house[2], (((0, 0), 2, 1, (done(2),), ()),))
        self.check(house, 0, ask((0, 0, 1), heard=0), house, (("tell", (0, 0, 1), done(2)),))
        self.check(house, 0, ask((0, 0, 0), heard=0), house)

    def test_above_next_waits_within_the_window(self):
        waits = (2, "till", 1, 9)
        house = self.check(VOID, 0, ask((0, 0, 2)), ((), (), (((0, 0), 0, 0, (), (waits,)),)))
        self.check(house, 7, ask((0, 0, 2)), house)
        self.check(house, 0, ask((0, 0, 1), last=0),
                   ((), (), (((0, 0), 0, 0, (), ((1, "safe", 2, 0), waits)),)))

    def test_beyond_the_window_nothing(self):
        # Of a group of which none came there is an entry behind it all the same.
        self.check(VOID, 0, ask((0, 0, 3)), ((), (), (((0, 0), 0, 0, (), ()),)))
        house = ((("till", 5),), (((0, 0, 0), done(5)),), (((0, 0), 1, 0, (done(5),), ()),))
        self.check(house, 0, ask((0, 0, 3)), house)
        self.check(house, 0, ask((0, 0, 3), heard=1),
                   (house[0], house[1], (((0, 0), 1, 1, (), ((3, "safe", 3, 9),)),)))
        self.check(house, 0, ask((0, 0, 4), heard=1), (house[0], house[1], (((0, 0), 1, 1, (), ()),)))

    def test_the_next_one_is_decided_whatever_the_window(self):
        house = VOID
        for n in range(5):
            house = asked(SETTING, house, 0, ask((0, 0, n)))[0]
        told = asked(SETTING, house, 0, ask((0, 0, 5)))
        self.assertEqual(told[2], ((0, 0, 5),))

    def test_those_that_waited_are_decided_behind_it(self):
        house = asked(SETTING, VOID, 0, ask((0, 0, 2), last=6))[0]
        house = asked(SETTING, house, 0, ask((0, 0, 1), last=3))[0]
        self.check(house, 4, ask((0, 0, 0), last=5),
                   ((("till", 6),), (((0, 0, 0), done(5)), ((0, 0, 1), ("late",)), ((0, 0, 2), done(6))),
                    (((0, 0), 3, 0, (done(5), ("late",), done(6)), ()),)),
                   (("tell", (0, 0, 0), done(5)), ("tell", (0, 0, 1), ("late",)), ("tell", (0, 0, 2), done(6))),
                   ((0, 0, 0), (0, 0, 1), (0, 0, 2)))

    def test_a_gap_goes_on_waiting(self):
        house = asked(SETTING, VOID, 0, ask((0, 0, 2)))[0]
        self.check(house, 0, ask((0, 0, 0)),
                   ((("till", 5),), (((0, 0, 0), done(5)),), (((0, 0), 1, 0, (done(5),), ((2, "till", 1, 9),)),)),
                   (("tell", (0, 0, 0), done(5)),), ((0, 0, 0),))

    def test_cells_and_groups_rise(self):
        house = VOID
        for key in ((1, 0, 0), (0, 1, 0), (0, 0, 0), (0, 1, 1)):
            house = asked(SETTING, house, 0, ask(key))[0]
        self.assertEqual(house[0], (("box", 1), ("till", 20)))
        self.assertEqual([key for key, _ in house[1]], [(1, 0, 0), (0, 1, 0), (0, 0, 0), (0, 1, 1)])
        self.assertEqual([entry[0] for entry in house[2]], [(0, 0), (0, 1), (1, 0)])

    def test_by_names(self):
        self.assertEqual(asked(letter=ask((0, 0, 0)), clock=0, house=VOID, setting=SETTING),
                         asked(SETTING, VOID, 0, ask((0, 0, 0))))


class TestFallen(unittest.TestCase):
    def test_void(self):
        self.assertTrue(same(fallen(SETTING, VOID), VOID))

    def test_nothing_waits_all_else_stays(self):
        house = asked(SETTING, VOID, 0, ask((0, 0, 0)))[0]
        house = asked(SETTING, house, 0, ask((0, 0, 2), heard=1))[0]
        house = asked(SETTING, house, 0, ask((1, 0, 1)))[0]
        before = copy.deepcopy(house)
        told = fallen(SETTING, house)
        self.assertTrue(same(told, ((("till", 5),), (((0, 0, 0), done(5)),),
                                    (((0, 0), 1, 1, (), ()), ((1, 0), 0, 0, (), ())))), told)
        self.assertTrue(same(house, before))
        self.assertTrue(same(fallen(SETTING, told), told))

    def test_what_waited_can_wait_again(self):
        house = asked(SETTING, VOID, 0, ask((0, 0, 1)))[0]
        self.assertEqual(asked(SETTING, fallen(SETTING, house), 0, ask((0, 0, 1)))[0], house)

    def test_by_names(self):
        self.assertEqual(fallen(house=VOID, setting=SETTING), VOID)


class TestManyRows(unittest.TestCase):
    KEYS = [(c, g, n) for c, caller in enumerate(SETTING[0]) for g, group in enumerate(caller[0])
            for n in range(len(group))]

    def test_against_a_plain_one(self):
        chance = random.Random(41)
        for _ in range(150):
            plain, house, clock = PlainHouse(SETTING[1]), VOID, 0
            for _ in range(60):
                clock += chance.random() < 0.3
                if chance.random() < 0.05:
                    plain.fall()
                    house = fallen(SETTING, house)
                key = chance.choice(self.KEYS)
                turn = plain.groups.get(key[:2], {"next": 0})["next"]
                letter = ask(key, chance.randrange(20), chance.randrange(turn + 1))
                house = self.one(plain, house, clock, letter)

    def one(self, plain, house, clock, letter):
        decided = set(plain.book)
        told = plain.ask(clock, letter)
        behind, tells, keys = asked(SETTING, house, clock, letter)
        self.assertTrue(same(behind, plain.as_house()))
        self.assertEqual(tells, tuple(("tell", key, plain.book[key]) for key in told))
        self.assertEqual(keys, tuple(key for key in told if key not in decided))
        self.check_rising(house, behind)
        # An "ask" that comes twice turns the house once at most.
        again = asked(SETTING, behind, clock + 1, letter)
        self.assertEqual((again[0], again[2]), (behind, ()))
        return behind

    def check_rising(self, house, behind):
        self.assertEqual(behind[1][:len(house[1])], house[1])
        now = {entry[0]: entry for entry in behind[2]}
        for pair, turn, floor, _, _ in house[2]:
            self.assertGreaterEqual(now[pair][1], turn)
            self.assertGreaterEqual(now[pair][2], floor)


if __name__ == "__main__":
    unittest.main()

import unittest

from things import HUGE, KEYS, NO_KEYS, ODD_THINGS, SETTING, same, spoiled

from twicecalls.house import asked
from twicecalls.letters import is_letter_of
from twicecalls.settings import call_of

ASK = ("ask", (0, 0, 2), "safe", 2, 17, 1)
TELL = ("tell", (0, 0, 2), ("done", 8))


class TestIsLetterOf(unittest.TestCase):
    def test_asks(self):
        for key in KEYS:
            cell, number, _ = call_of(SETTING, key)
            for last, heard in ((0, 0), (99, 7), (HUGE, HUGE)):
                self.assertIs(is_letter_of(SETTING, ("ask", key, cell, number, last, heard)), True)
        self.assertIs(is_letter_of(thing=ASK, setting=SETTING), True)

    def test_tells(self):
        for key in KEYS:
            for answer in (("late",), ("done", 0), ("done", HUGE)):
                self.assertIs(is_letter_of(SETTING, ("tell", key, answer)), True)

    def test_of_no_key(self):
        for key in NO_KEYS:
            self.assertIs(is_letter_of(SETTING, ("tell", key, ("late",))), False, key)
            for cell, number in (("till", 5), ("safe", 2), ("box", 1)):
                self.assertIs(is_letter_of(SETTING, ("ask", key, cell, number, 3, 0)), False, key)

    def test_cell_or_number_of_another_call(self):
        for key in KEYS:
            right = call_of(SETTING, key)[:2]
            for cell, number in (("till", 5), ("till", 1), ("safe", 2), ("till", 7), ("safe", 4), ("box", 1),
                                 ("till", 2), ("safe", 5), ("none", 1), (right[0], right[1] + 1)):
                told = is_letter_of(SETTING, ("ask", key, cell, number, 3, 0))
                self.assertIs(told, (cell, number) == right, (key, cell, number))

    def test_none_by_kind(self):
        for thing in (("ask", (0, 0, 1), "till", True, 3, 0), ("ask", (0, 0, 2), "safe", 2, -1, 0),
                      ("ask", (0, 0, 2), "safe", 2, True, 0), ("ask", (0, 0, 2), "safe", 2, 0, -1),
                      ("ask", (0, 0, 2), "safe", 2, 0, False), ("ask", (0, 0, 2), "safe", 2, 0),
                      ("ask", (0, 0, 2), "safe", 2, 0, 0, 0), ("ask", [0, 0, 2], "safe", 2, 0, 0),
                      ("Ask", (0, 0, 2), "safe", 2, 0, 0), ("tell", (0, 0, 2), "safe", 2, 0, 0),
                      ("tell", (0, 0, 2), ("done", True)), ("tell", (0, 0, 2), ("done", -1)),
                      ("tell", (0, 0, 2), ["late"]), ("tell", (0, 0, 2), ("late", 1)), ("tell", (0, 0, 2), None),
                      ("tell", (0, 0, 2)), ("tell", (0, 0, 2), ("late",), 0), ("ask", (0, 0, 2), ("late",)),
                      list(ASK), list(TELL), [], (), None, True, "tell", ("tell",), ("ask",)):
            self.assertIs(is_letter_of(SETTING, thing), False, thing)
        for thing in (*ODD_THINGS, *spoiled(TELL)):
            self.assertIs(is_letter_of(SETTING, thing), False, thing)

    def test_one_part_otherwise(self):
        for thing in spoiled(ASK):
            self.assertIs(is_letter_of(SETTING, thing), False, thing)

    def test_what_the_house_tells(self):
        # [51]: a "tell" that is told is a LETTER OF the SETTING.
        house = ((), (), ())
        for key in KEYS:
            cell, number, span = call_of(SETTING, key)
            house, tells, _ = asked(SETTING, house, 3, ("ask", key, cell, number, span, 0))
            self.assertEqual(len(tells), 1)
            self.assertTrue(same([is_letter_of(SETTING, letter) for letter in tells], [True]))


if __name__ == "__main__":
    unittest.main()

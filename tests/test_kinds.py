import unittest

from things import HUGE, ODD_THINGS

from twicecalls.kinds import is_number, is_word


class TestKinds(unittest.TestCase):
    def test_numbers(self):
        for thing in (0, 1, 7, 10 ** 6, HUGE, 10 ** 900):
            self.assertIs(is_number(thing), True)

    def test_no_numbers(self):
        for thing in (-1, -HUGE, True, False, None, "", "1", "a", (), (1,), [], [1], ((1,),)):
            self.assertIs(is_number(thing), False, thing)

    def test_words(self):
        for thing in ("a", "z", "till", "abcdefgh", "zzzzzzzz"):
            self.assertIs(is_word(thing), True, thing)

    def test_no_words(self):
        for thing in ("", "abcdefghi", "A", "aB", "a b", " a", "a ", "a\n", "a1", "1", "a-b", "`", "{", "~", "x" * 4000,
                      ("a",), ["a"], ["a", "b"], None, True, False, 0, 1, -1, ()):
            self.assertIs(is_word(thing), False, thing)

    def test_every_sign_alone(self):
        for code in range(32, 127):
            self.assertIs(is_word(chr(code)), "a" <= chr(code) <= "z")

    def test_any_thing_has_an_answer(self):
        for thing in ODD_THINGS:
            self.assertIs(is_number(thing), thing.__class__ is int and thing >= 0)
            self.assertIs(is_word(thing), thing in ("a", "first", "tick", "late", "done"))

    def test_by_name(self):
        self.assertIs(is_number(thing=3), True)
        self.assertIs(is_word(thing="till"), True)


if __name__ == "__main__":
    unittest.main()

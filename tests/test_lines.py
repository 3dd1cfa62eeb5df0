import unittest

from things import SETTING

from twicecalls.lines import shown_key, shown_setting, shown_step, shown_steps


class TestLines(unittest.TestCase):
    def test_steps_of_each_word(self):
        for step, text in ((("go", 0), "go 0"), (("go", 12), "go 12"), (("get", 1, 2), "get 1 2"),
                           (("lose", 0, 10), "lose 0 10"), (("double", 1, 0), "double 1 0"), (("tick",), "tick"),
                           (("tear", 1), "tear 1"), (("fall",), "fall")):
            self.assertEqual(shown_step(step), text)

    def test_rows_of_steps(self):
        self.assertEqual(shown_steps(()), "")
        self.assertEqual(shown_steps((("tick",),)), "tick")
        self.assertEqual(shown_steps((("go", 0), ("get", 1, 2), ("tick",))), "go 0\nget 1 2\ntick")
        self.assertEqual(shown_steps((("fall",),) * 300).count("\n"), 299)

    def test_keys(self):
        self.assertEqual(shown_key((0, 1, 2)), "0.1.2")
        self.assertEqual(shown_key((0, 0, 0)), "0.0.0")
        self.assertEqual(shown_key((10, 999999999999, 3)), "10.999999999999.3")

    def test_setting(self):
        self.assertEqual(shown_setting(SETTING), "\n".join((
            "setting 2 3",
            "caller 1/2 2/1",
            "group till:5:20 till:1:0 safe:2:3 till:7:1",
            "group",
            "group safe:4:9",
            "caller 0/1 1/3",
            "caller 3/1 0/1",
            "group box:1:0",
        )))

    def test_setting_of_little(self):
        self.assertEqual(shown_setting(((((), (0, 1), (0, 1)),), 1, 1)), "setting 1 1\ncaller 0/1 0/1")
        self.assertEqual(shown_setting((((((),), (0, 1), (0, 1)),), 1, 9)), "setting 1 9\ncaller 0/1 0/1\ngroup")
        self.assertEqual(shown_setting((((((("till", 5, 20), ("till", 1, 0)),), (1, 1), (1, 1)),), 1, 9)),
                         "setting 1 9\ncaller 1/1 1/1\ngroup till:5:20 till:1:0")

    def test_beyond_bounds(self):
        setting = ((((), (999999999999, 1), (1, 999999999999)),) * 4, 10, 999999999999)
        self.assertEqual(shown_setting(setting), "setting 10 999999999999" +
                         "\ncaller 999999999999/1 1/999999999999" * 4)

    def test_by_names(self):
        self.assertEqual(shown_step(step=("tick",)), "tick")
        self.assertEqual(shown_steps(steps=(("tick",), ("fall",))), "tick\nfall")
        self.assertEqual(shown_key(key=(1, 2, 3)), "1.2.3")
        self.assertEqual(shown_setting(setting=((((), (0, 1), (0, 1)),), 1, 1)), "setting 1 1\ncaller 0/1 0/1")


if __name__ == "__main__":
    unittest.main()

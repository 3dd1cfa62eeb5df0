import random
import re
import unittest

from things import SETTING, same

from twicecalls.errors import CallError, NoText
from twicecalls.lines import shown_key, shown_setting, shown_step, shown_steps
from twicecalls.readings import read_key, read_setting, read_step, read_steps

MOST = 10 ** 12 - 1
STEPS = (("go", 0), ("go", MOST), ("get", 0, 0), ("get", 1, 12), ("lose", 0, 3), ("double", 1, 0), ("tick",),
         ("tear", 0), ("tear", 1), ("fall",))
NO_NUMBERS = ("", "01", "00", "-1", "+1", "1.", "1_0", "a", "0x1", "1" * 13, "0" * 12, "1\n", "~", "True", "None")
LITTLE = ((((), (0, 1), (0, 1)),), 1, 1)


class Refusing(unittest.TestCase):
    def refused(self, at, which, read, *handed, **named):
        with self.assertRaises(NoText) as caught:
            read(*handed, **named)
        self.assertIsInstance(caught.exception, CallError)
        self.assertTrue(same((caught.exception.line, caught.exception.word), (at, which)),
                        (handed, caught.exception.line, caught.exception.word))


class TestReadStep(Refusing):
    def test_what_is_written(self):
        for step in STEPS:
            self.assertTrue(same(read_step(shown_step(step)), step))
            self.assertTrue(same(read_step(text=shown_step(step), line=7), step))

    def test_the_line_handed_in(self):
        self.refused(0, 0, read_step, "tock")
        self.refused(5, 0, read_step, "tock", 5)
        self.refused(5, 1, read_step, line=5, text="go x")
        self.refused(5, 1, read_step, "go", 5)
        self.refused(MOST, 1, read_step, "tick tick", MOST)

    def test_first_words(self):
        for text in ("", " ", "x", "Go 0", "go\n", "tick\n", "\n", "tick\ntick", " tick", "  tick", "0", "first",
                     "gone 0", "setting 1 1", "ask", "go\t0", "~"):
            self.refused(0, 0, read_step, text)

    def test_numbers(self):
        for word in NO_NUMBERS:
            self.refused(0, 1, read_step, f"go {word}")
            self.refused(0, 2, read_step, f"get 0 {word}")
            self.refused(0, 1, read_step, f"lose {word} 0")
            self.refused(0, 1, read_step, f"tear {word}")

    def test_figures(self):
        self.assertEqual(read_step("go 123456789012"), ("go", 123456789012))
        self.refused(0, 1, read_step, "go 1234567890123")
        self.refused(0, 1, read_step, "go 1000000000000")

    def test_lanes(self):
        for word in ("get", "lose", "double"):
            self.refused(0, 1, read_step, f"{word} 2 0")
            self.refused(0, 1, read_step, f"{word} 2")
            self.refused(0, 1, read_step, f"{word} 10 x y")
        self.refused(0, 1, read_step, "tear 2")

    def test_lacking(self):
        for text, many in (("go", 1), ("get", 1), ("get 0", 2), ("lose 1", 2), ("double", 1), ("double 1", 2),
                           ("tear", 1)):
            self.refused(0, many, read_step, text)

    def test_too_many(self):
        for text, word in (("go 0 0", 2), ("get 0 0 0", 3), ("tick 0", 1), ("fall x y", 1), ("tear 0 1", 2),
                           ("go 0 ", 2), ("tick ", 1), ("fall  ", 1)):
            self.refused(0, word, read_step, text)

    def test_blanks(self):
        for text, word in (("go  0", 1), ("get 0  0", 2), ("get  0 0", 1), ("go ", 1), (" go 0", 0), ("get 0 ", 2)):
            self.refused(0, word, read_step, text)


class TestReadSteps(Refusing):
    def test_what_is_written(self):
        for many in range(len(STEPS) + 1):
            self.assertTrue(same(read_steps(shown_steps(STEPS[:many])), STEPS[:many]))
        self.assertEqual(read_steps(shown_steps(STEPS * 40)), STEPS * 40)
        self.assertTrue(same(read_steps(text="tick"), (("tick",),)))

    def test_line_ends(self):
        self.assertTrue(same(read_steps(""), ()))
        self.assertEqual(read_steps("tick\n"), (("tick",),))
        self.assertEqual(read_steps("tick\ngo 1\n"), (("tick",), ("go", 1)))
        self.refused(0, 0, read_steps, "\n")
        self.refused(0, 0, read_steps, "\n\n")
        self.refused(0, 0, read_steps, "\ntick")
        self.refused(1, 0, read_steps, "tick\n\n")
        self.refused(1, 0, read_steps, "tick\n\ntick")
        self.refused(1, 0, read_steps, "tick\n ")

    def test_the_first_line_goes(self):
        self.refused(2, 1, read_steps, "tick\nfall\ngo x\nbad\n")
        self.refused(1, 2, read_steps, "go 0\nget 1\ngo x")
        self.refused(0, 2, read_steps, "go 0 0\nx")
        self.refused(1, 1, read_steps, "tick\ntick \ntick")


class TestReadKey(Refusing):
    def test_what_is_written(self):
        for key in ((0, 0, 0), (0, 1, 2), (10, 20, 30), (MOST, MOST, MOST)):
            self.assertTrue(same(read_key(shown_key(key)), key))
        self.assertEqual(read_key(text="0.1.2"), (0, 1, 2))

    def test_no_keys(self):
        for text in ("", "\n", "0", "0.1", "0.1.", ".0.1", "0..1", "0.1.2.3", "0.1.2.", "a.b.c", "0,1,2", "0.1.-2",
                     "00.1.2", "0.1.02", "0.1.2\n", "0.1.1000000000000", "0/1", "0.1.2\n3", "0.1.2\n0.1.2", "-", " "):
            self.refused(0, 0, read_key, text)
        for text in (" 0.1.2", "0.1 2", "0 1 2", "0.1 0.1.2"):
            self.refused(0, 0, read_key, text)

    def test_too_many(self):
        for text in ("0.1.2 ", "0.1.2 x", "0.1.2 0.1.2", "0.1.2  ", "0.1.2 x y"):
            self.refused(0, 1, read_key, text)


class TestReadSetting(Refusing):
    def test_what_is_written(self):
        beyond = (((((("a", MOST, MOST),),) * 5, (MOST, 1), (1, MOST)),) * 4, MOST, MOST)
        for setting in (SETTING, LITTLE, beyond):
            self.assertTrue(same(read_setting(shown_setting(setting)), setting))
            self.assertTrue(same(read_setting(text=shown_setting(setting) + "\n"), setting))

    def test_first_line(self):
        for text in ("caller 0/1 0/1", "group", "x", "Setting 1 1", " setting 1 1", "\n",
                     "\nsetting 1 1\ncaller 0/1 0/1", "", "tick", "setting\t1 1"):
            self.refused(0, 0, read_setting, text)
        for word in (*NO_NUMBERS[:11], "0", "1/1"):
            self.refused(0, 1, read_setting, f"setting {word} 1\ncaller 0/1 0/1")
            self.refused(0, 2, read_setting, f"setting 1 {word}\ncaller 0/1 0/1")
        self.refused(0, 1, read_setting, "setting\ncaller 0/1 0/1")
        self.refused(0, 2, read_setting, "setting 1\ncaller 0/1 0/1")
        self.refused(0, 3, read_setting, "setting 1 1 1\ncaller 0/1 0/1")
        self.refused(0, 3, read_setting, "setting 1 1 \ncaller 0/1 0/1")
        self.refused(0, 1, read_setting, "setting  1 1\ncaller 0/1 0/1")

    def test_without_a_caller(self):
        self.refused(0, 0, read_setting, "")
        self.refused(1, 0, read_setting, "setting 1 1")
        self.refused(1, 0, read_setting, "setting 1 1\n")
        self.refused(1, 0, read_setting, "setting 1 1\n\n")
        self.refused(1, 0, read_setting, "setting 1 1\ngroup")
        self.refused(1, 0, read_setting, "setting 1 1\ngroup till:0:1\ncaller 0/1 0/1")

    def test_first_words_of_other_lines(self):
        head = "setting 1 1\ncaller 0/1 0/1"
        for row in ("", "x", "setting 1 1", " caller 0/1 0/1", "Group", "groups", "till:5:20", " group", "tick"):
            self.refused(2, 0, read_setting, f"{head}\n{row}\ngroup")
        self.refused(2, 0, read_setting, f"{head}\n\n")
        self.refused(3, 0, read_setting, f"{head}\ngroup\n\n")

    def test_callers(self):
        for word in ("", "0", "1", "0/0", "1/0", "0/2", "2/4", "1/2/3", "/", "1/", "/1", "01/2", "1/02", "-1/2",
                     "1:2", "a/b", "1/1000000000000", "1000000000000/1", "1//2"):
            self.refused(1, 1, read_setting, f"setting 1 1\ncaller {word} 0/1")
            self.refused(1, 2, read_setting, f"setting 1 1\ncaller 0/1 {word}")
        self.refused(1, 1, read_setting, "setting 1 1\ncaller")
        self.refused(1, 2, read_setting, "setting 1 1\ncaller 0/1")
        self.refused(1, 3, read_setting, "setting 1 1\ncaller 0/1 0/1 0/1")
        self.refused(1, 3, read_setting, "setting 1 1\ncaller 0/1 0/1 ")
        self.refused(1, 1, read_setting, "setting 1 1\ncaller  0/1 0/1")
        self.refused(2, 2, read_setting, "setting 1 1\ncaller 0/1 0/1\ncaller 1/2 2/2\ngroup x")

    def test_groups(self):
        head = "setting 1 1\ncaller 0/1 0/1\n"
        for word in ("", "till", "till:5", "till:5:", ":5:20", "till:0:20", "till:05:20", "till:5:020",
                     "till:5:20:1", "Till:5:20", "abcdefghi:5:20", "till:5:-1", "till:1000000000000:1",
                     "till:1:1000000000000", "till/5/20", "5:5:20", "till::5:20", "group"):
            self.refused(2, 1, read_setting, f"{head}group {word}")
            self.refused(2, 2, read_setting, f"{head}group a:1:0 {word}")
            self.refused(2, 2, read_setting, f"{head}group a:1:0 {word} x")
        self.refused(2, 1, read_setting, f"{head}group ")
        self.refused(3, 3, read_setting, f"{head}group\ngroup a:1:0 b:2:0 ")
        self.assertEqual(read_setting(f"{head}group\ngroup a:1:0")[0][0][0], ((), (("a", 1, 0),)))

    def test_the_first_line_goes(self):
        self.refused(0, 2, read_setting, "setting 1 0\nx")
        self.refused(1, 0, read_setting, "setting 1 1\nx\ncaller 2/4 1/1")
        self.refused(2, 1, read_setting, "setting 1 1\ncaller 0/1 0/1\ncaller 2/4\ngroup x\nx")


# How far a line can stand, word by word, by signs alone: what each next word has to look like.
NUMBER, COUNT, LANE = r"(0|[1-9]\d{0,11})", r"[1-9]\d{0,11}", "[01]"
FORMS = {"go": (NUMBER,), "get": (LANE, NUMBER), "lose": (LANE, NUMBER), "double": (LANE, NUMBER), "tick": (),
         "tear": (LANE,), "fall": (), "setting": (COUNT, COUNT), "caller": (f"{NUMBER}/{COUNT}",) * 2,
         "group": (f"[a-z]{{1,8}}:{COUNT}:{NUMBER}",) * 99}


def stands(row, heads):
    """The word of a line that can't stand, None where all can."""
    words = row.split(" ")
    if words[0] not in heads:
        return 0
    form = FORMS[words[0]]
    for k, word in enumerate(words[1:]):
        if k >= len(form) or not re.fullmatch(form[k], word) or "/" in word and not is_cut(word):
            return k + 1
    return None if words[0] == "group" or len(words) == len(form) + 1 else len(words)


def is_cut(word):
    over, under = map(int, word.split("/"))
    return not any(over % k == under % k == 0 for k in range(2, max(over, under) + 1))


def rows_of(text):
    rows = re.findall(r"[^\n]*\n|[^\n]+\Z", text)
    return [row.removesuffix("\n") for row in rows]


def setting_fault(text):
    heads = {0: ("setting",), 1: ("caller",)}
    rows = rows_of(text)
    for line, row in enumerate(rows):
        word = stands(row, heads.get(line, ("caller", "group")))
        if word is not None:
            return (line, word)
    return None if len(rows) > 1 else (len(rows), 0)


def steps_fault(text):
    for line, row in enumerate(rows_of(text)):
        word = stands(row, ("go", "get", "lose", "double", "tick", "tear", "fall"))
        if word is not None:
            return (line, word)
    return None


class TestManyTexts(unittest.TestCase):
    """Texts with some signs otherwise are read, or refused, as the forms above have it."""

    def check(self, text, read, shown, fault):
        try:
            thing = read(text)
        except NoText as refusal:
            self.assertEqual((refusal.line, refusal.word), fault, repr(text))
            return
        self.assertIsNone(fault, repr(text))
        self.assertIn(text, (shown(thing), shown(thing) + "\n"))

    def spoiled(self, chance, text):
        for _ in range(chance.randrange(1, 4)):
            at = chance.randrange(len(text) + 1)
            cut = chance.choice((0, 1, 1, 2))
            put = chance.choice(("", " ", "\n", "0", "1", "2", "x", "/", ":", "caller", "group"))
            text = text[:at] + put + text[at + cut:]
        return text

    def test_steps(self):
        chance = random.Random(89)
        for _ in range(4000):
            text = self.spoiled(chance, shown_steps(tuple(chance.choice(STEPS) for _ in range(chance.randrange(4)))))
            self.check(text, read_steps, shown_steps, steps_fault(text))
            if "\n" not in text and text:
                self.check(text, read_step, shown_step, steps_fault(text))

    def test_settings(self):
        chance = random.Random(88)
        texts = [shown_setting(SETTING), shown_setting(LITTLE), "setting 2 3\ncaller 1/2 3/1\ngroup a:1:0\ngroup"]
        for _ in range(6000):
            text = self.spoiled(chance, chance.choice(texts))
            self.check(text, read_setting, shown_setting, setting_fault(text))


if __name__ == "__main__":
    unittest.main()

import copy
import random
import re
import unittest

from plain import PlainRun, setting_made
from things import same

from twicecalls.desk import Desk
from twicecalls.errors import CallError, LostError, NoBack, NoKey, NoLine, NoStep
from twicecalls.lines import shown_key, shown_setting, shown_step
from twicecalls.mill import Mill
from twicecalls.readings import read_setting

OPEN = "open setting 2 3 | caller 1/2 2/1 | group till:5:20 till:1:0 | group | caller 0/1 1/3"
SETTING = ((((("till", 5, 20), ("till", 1, 0)), ()), (1, 2), (2, 1)), ((), (0, 1), (1, 3))), 2, 3
ASKS = ("steps", "clock", "book", "open", "cells", "letters", "order", "known 0.0.0", "known 0.0.1", "purse 0",
        "purse 1")
# Each row that isn't "open SETTING", of its form.
ROWS = (*ASKS, "do tick", "do go 0 | tick", "back", "back 1", "back 0", "known 9.9.9", "purse 9")


def desk_of(*rows):
    desk = Desk()
    for row in (OPEN, *rows):
        desk.say(row)
    return desk


def all_of(desk):
    return [desk.say(row) for row in ASKS]


class Desks(unittest.TestCase):
    def says(self, desk, *pairs):
        for row, answer in pairs:
            self.assertTrue(same(desk.say(row), answer), row)

    def no_line(self, desk, *rows):
        before = all_of(desk) if desk is not None else None
        for row in rows:
            for one in (Desk(), desk) if desk is not None else (Desk(),):
                with self.assertRaises(NoLine) as caught:
                    one.say(row)
                self.assertIsInstance(caught.exception, CallError)
                self.assertIs(caught.exception.row, row)
        if desk is not None:
            self.assertEqual(all_of(desk), before)

    def refused(self, kind, thing, desk, row):
        with self.assertRaises(kind) as caught:
            desk.say(row)
        self.assertIsInstance(caught.exception, LostError)
        self.assertTrue(same(list(vars(caught.exception).values()), [thing]))


class TestOpen(Desks):
    def test_no_mill_at_first(self):
        for row in (*ROWS, "do go 9", "do get 0 0", "back 5"):
            self.no_line(None, row)

    def test_a_new_mill(self):
        desk = Desk()
        self.says(desk, (OPEN, "ok"), ("steps", "0"), ("clock", "0"))
        self.assertEqual(Desk().say(row=OPEN), "ok")
        self.assertTrue(same(read_setting(OPEN[5:].replace(" | ", "\n")), SETTING))

    def test_anew_in_place_of_one_that_is_there(self):
        desk = desk_of("do tick | go 0")
        self.says(desk, ("steps", "2"), ("open setting 1 1 | caller 1/1 1/1", "ok"), ("steps", "0"), ("clock", "0"),
                  ("open", "-"))
        self.refused(NoKey, (0, 0, 0), desk, "known 0.0.0")
        self.refused(NoStep, ("go", 1), desk, "purse 1")

    def test_the_least_setting_and_line_ends(self):
        for row in ("open setting 1 1 | caller 1/1 1/1", "open setting 1 1\ncaller 1/1 1/1",
                    "open setting 1 1 | caller 1/1 1/1 | ", "open setting 1 1 | caller 1/1 1/1\n",
                    "open setting 1 1\ncaller 1/1 1/1 | ", "open setting 1 1\ncaller 1/1 1/1\n"):
            self.says(Desk(), (row, "ok"))
        self.says(Desk(), (OPEN.replace(" | ", "\n"), "ok"), (OPEN.replace(" | ", "\n", 2), "ok"))

    def test_no_settings(self):
        self.no_line(desk_of("do tick"), "open ", "open  ", "open setting", "open setting 1 1", "open setting 1 1 | ",
                     "open setting 0 1 | caller 1/1 1/1", "open setting 1 01 | caller 1/1 1/1",
                     "open setting 1 1 | caller 2/2 1/1", "open setting 1 1 | caller 1/1",
                     "open setting 1 1 |caller 1/1 1/1", "open setting 1 1| caller 1/1 1/1",
                     "open setting 1 1 || caller 1/1 1/1", "open setting 1 1 | | caller 1/1 1/1",
                     "open setting 1 1 |  | caller 1/1 1/1", "open setting 1 1  | caller 1/1 1/1",
                     "open setting 1 1 | caller 1/1 1/1 |", "open setting 1 1 | caller 1/1 1/1 | | ",
                     "open setting 1 1 | caller 1/1 1/1 |  | ", "open setting 1 1 | caller 1/1 1/1\n | ",
                     "open setting 1 1 | caller 1/1 1/1 | \n", "open setting 1 1\ncaller 1/1 1/1\n\n",
                     "open  setting 1 1 | caller 1/1 1/1", "open | setting 1 1 | caller 1/1 1/1",
                     "open  | setting 1 1 | caller 1/1 1/1", "open\nsetting 1 1 | caller 1/1 1/1",
                     "open setting 1 1 | group | caller 1/1 1/1", "open setting 1 1 | caller 1/1 1/1 | group ",
                     "open setting 1 1 | caller 1/1 1/1 | group a:0:1", "open setting 1 1 | caller 1/1 1/1 | a:1:1",
                     "open setting 1 1 | caller 1/1 1/1 | setting 1 1", "open caller 1/1 1/1", "open setting 1 1 1",
                     "Open setting 1 1 | caller 1/1 1/1", " open setting 1 1 | caller 1/1 1/1",
                     "open setting 1 1 | caller 1/1 1/1 ", "open\n", "open\nsetting 1 1\ncaller 1/1 1/1")

    def test_numbers_of_twelve_figures_and_of_thirteen(self):
        twelve = "9" * 12
        self.says(Desk(), (f"open setting {twelve} {twelve} | caller {twelve}/1 1/{twelve} | group a:{twelve}:{twelve}",
                           "ok"))
        for row in ("open setting {} 1 | caller 1/1 1/1", "open setting 1 {} | caller 1/1 1/1",
                    "open setting 1 1 | caller {}/1 1/1", "open setting 1 1 | caller 1/1 1/{}",
                    "open setting 1 1 | caller 1/1 1/1 | group a:{}:1",
                    "open setting 1 1 | caller 1/1 1/1 | group a:1:{}"):
            self.says(Desk(), (row.format("1" + "0" * 11), "ok"))
            self.no_line(desk_of(), row.format("1" + "0" * 12), row.format("01"))

    def test_many_settings(self):
        chance = random.Random(88)
        for _ in range(60):
            setting = setting_made(chance)
            desk = Desk()
            self.says(desk, ("open " + shown_setting(setting).replace("\n", " | "), "ok"))
            self.assertEqual(desk.say("open"), "-")


class TestDo(Desks):
    def test_how_many_were_done(self):
        desk = Desk()
        self.says(desk, (OPEN, "ok"), ("do tick", "1"), ("do go 0 | go 0 | go 1", "3"), ("steps", "4"),
                  ("do get 0 0 | lose 1 0 | double 0 0 | tear 1 | fall", "5"), ("steps", "9"))
        self.says(desk, ("do " + " | ".join(["tick"] * 900), "900"), ("clock", "901"))

    def test_of_no_form(self):
        self.no_line(desk_of("do tick"), "do", "do ", "do  tick", "do tick ", "do tick | ", "do tick |", "do | tick",
                     "do  | tick", "do tick|tick", "do tick |tick", "do tick| tick", "do tick || tick",
                     "do tick | | tick", "do tick |  | tick", "do tick\ntick", "do tick\n", "do tick tick", "do go",
                     "do go 0 0", "do go 00", "do go 01", "do go -1", "do go +0", "do go a", "do get 2 0", "do get 0",
                     "do tear 2", "do tear", "do fall 0", "do Tick", "do ticks", "do tick | walk", "do tick | go x",
                     "do go 1000000000000", "do get 0 1000000000000", "Do tick", " do tick", "dotick", "tick", "go 0",
                     "do go 0\n | tick", "do go \u0660", "do go 0 |\ntick")

    def test_where_one_is_refused_those_ahead_of_it_stand(self):
        desk = desk_of()
        self.refused(NoStep, ("go", 2), desk, "do tick | go 0 | go 2 | tick")
        self.says(desk, ("steps", "2"), ("clock", "1"), ("open", "0.0.0"))
        self.refused(NoStep, ("get", 1, 0), desk, "do get 1 0 | tick")
        self.refused(NoStep, ("go", 999999999999), desk, "do go 999999999999")
        self.refused(NoStep, ("lose", 0, 999999999999), desk, "do lose 0 999999999999")
        self.says(desk, ("steps", "2"))
        # No form goes ahead of what can't be, and nothing of it is done.
        self.no_line(desk, "do tick | go 2 | walk", "do go 2 | ")
        self.says(desk, ("steps", "2"))


class TestBack(Desks):
    def test_the_last_one_first(self):
        desk = desk_of("do tick | go 0 | get 0 0 | tear 1")
        self.says(desk, ("back", "tear 1"), ("back 2", "get 0 0 | go 0"), ("steps", "1"), ("back 1", "tick"))
        self.refused(NoBack, 1, desk, "back")
        self.refused(NoBack, 1, desk, "back 1")

    def test_refused(self):
        desk = desk_of("do tick | tick")
        for times in (0, 3, 999999999999):
            self.refused(NoBack, times, desk, f"back {times}")
        self.says(desk, ("steps", "2"))
        self.no_line(desk, "back ", "back  1", "back 1 ", "back 01", "back 1 1", "back -1", "back x", "back 1\n",
                     "back 1000000000000", "Back", " back", "back\n", "back None", "back 1.0")


class TestAsks(Desks):
    def test_where_there_is_nothing(self):
        self.says(desk_of(), ("steps", "0"), ("clock", "0"), ("book", "-"), ("open", "-"), ("cells", "-"),
                  ("known 0.0.0", "untried -"), ("known 0.0.1", "untried -"), ("purse 0", "2/1 0"),
                  ("purse 1", "1/3 0"), ("letters", "0 0"), ("order", "yes"))

    def test_where_there_is_much(self):
        desk = desk_of("do go 0 | go 0 | tick | get 0 0 | get 1 0")
        self.says(desk, ("steps", "5"), ("clock", "1"), ("book", "0.0.0=done:5 0.0.1=late"), ("open", "0.0.0 0.0.1"),
                  ("cells", "till=5"), ("known 0.0.0", "open done:5"), ("known 0.0.1", "open late"),
                  ("letters", "1 1"), ("order", "yes"), ("do get 1 0 | double 0 0", "2"), ("letters", "2 0"),
                  ("known 0.0.1", "heard late"), ("open", "0.0.0"), ("do get 0 0", "1"),
                  ("known 0.0.0", "heard done:5"), ("open", "-"))

    def test_open_alone_asks(self):
        desk = desk_of("do go 0")
        self.says(desk, ("open", "0.0.0"), ("known 0.0.0", "open -"), ("steps", "1"))

    def test_cells(self):
        desk = Desk()
        desk.say("open setting 6 1 | caller 1/1 1/1 | group till:5:20 box:1:20 till:2:20 a:1:0")
        desk.say("do go 0 | go 0 | go 0 | go 0 | tick | get 1 0 | get 0 0 | get 0 0 | get 1 0")
        self.says(desk, ("cells", "box=1 till=7"), ("book", "0.0.0=done:5 0.0.1=done:1 0.0.2=done:7 0.0.3=late"))

    def test_purse(self):
        desk = desk_of("do go 0 | go 0 | tear 0 | tear 1 | tick | tick | tick | go 0")
        self.says(desk, ("purse 0", "1/1 1"), ("purse 1", "1/3 0"), ("do go 0", "1"), ("purse 0", "0/1 2"))
        self.refused(NoStep, ("go", 2), desk, "purse 2")
        self.refused(NoStep, ("go", 999999999999), desk, "purse 999999999999")

    def test_known_of_no_key(self):
        desk = desk_of("do go 0")
        for key in ((0, 0, 2), (0, 1, 0), (0, 2, 0), (1, 0, 0), (2, 0, 0), (999999999999, 0, 0)):
            self.refused(NoKey, key, desk, f"known {shown_key(key)}")

    def test_of_no_form(self):
        rows = ["", " ", "\n", "|", " | ", "-", "ok", "OPEN", "known", "known ", "purse", "purse ", "known 0.0",
                "known 0.0.0.0", "known 0.0.0 ", "known  0.0.0", "known 0.0.0 0", "known 00.0.0", "known 0.0.01",
                "known 0.0.x", "known 0..0", "known .0.0", "known 0.0.0\n", "known 0/0/0", "known 0 0 0",
                "known 1000000000000.0.0", "known 0.0.1000000000000", "purse  0", "purse 0 ", "purse 00", "purse 01",
                "purse 0 0", "purse x", "purse -1", "purse 1000000000000", "purse 0\n", "purse 0.0", "Known 0.0.0"]
        for word in ("steps", "clock", "book", "open", "cells", "letters", "order"):
            rows += [word + " ", " " + word, word + " 0", word + "\n", word.upper(), word[:-1], word + "s", word + " -",
                     word + " " + word]
        self.no_line(desk_of("do go 0"), *rows)


class PlainDesk:
    """The forms by patterns, and the answers from a plain run."""

    N = r"(?:0|[1-9][0-9]{0,11})"
    STEP = rf"(?:go {N}|(?:get|lose|double) [01] {N}|tick|tear [01]|fall)"
    FORM = re.compile(rf"do {STEP}(?: \| {STEP})*|back(?: {N})?|steps|clock|book|open|cells|letters|order"
                      rf"|known {N}\.{N}\.{N}|purse {N}", re.ASCII)

    def __init__(self, setting):
        self.run = PlainRun(setting)

    def answer(self, row):
        """The answer, or the kind of the refusal."""
        if not self.FORM.fullmatch(row):
            return NoLine
        word, _, rest = row.partition(" ")
        return getattr(self, word + "_said")(rest)

    def do_said(self, rest):
        steps = rest.split(" | ")
        for text in steps:
            step = tuple(int(part) if part.isdecimal() else part for part in text.split(" "))
            if not self.run.can(step):
                return NoStep
            self.run.step(step)
        return str(len(steps))

    def back_said(self, rest):
        times = int(rest or 1)
        if not 0 < times <= len(self.run.steps):
            return NoBack
        steps, undone = self.run.steps[:-times], self.run.steps[-times:]
        self.run = PlainRun(self.run.setting)
        for step in steps:
            self.run.step(step)
        return " | ".join(" ".join(map(str, step)) for step in undone[::-1])

    def steps_said(self, _):
        return str(len(self.run.steps))

    def clock_said(self, _):
        return str(self.run.steps.count(("tick",)))

    def shown(self, answer):
        return {None: "-", ("late",): "late"}.get(answer) or f"done:{answer[1]}"

    def book_said(self, _):
        book = self.run.house.book
        return " ".join("{}.{}.{}=".format(*key) + self.shown(book[key]) for key in book) or "-"

    def open_said(self, _):
        return " ".join("{}.{}.{}".format(*key) for key in self.run.keys()
                        if self.run.calls.get(key, [0])[-1] is None) or "-"

    def cells_said(self, _):
        return " ".join(f"{cell}={total}" for cell, total in sorted(self.run.house.cells.items())) or "-"

    def letters_said(self, _):
        return f"{len(self.run.lanes[0])} {len(self.run.lanes[1])}"

    def order_said(self, _):
        return "yes"

    def known_said(self, rest):
        key = tuple(map(int, rest.split(".")))
        if key not in self.run.keys():
            return NoKey
        call = self.run.calls.get(key)
        way = "untried" if call is None else "open" if call[3] is None else "heard"
        return f"{way} {self.shown(self.run.house.book.get(key))}"

    def purse_said(self, rest):
        caller = int(rest)
        if caller >= len(self.run.callers):
            return NoStep
        purse = self.run.purses[caller]
        many = sum(event[0] == "further" and event[1][0] == caller for event in self.run.events)
        return f"{purse.numerator}/{purse.denominator} {many}"


class TestMany(Desks):
    def row(self, chance, plain):
        dice = chance.random()
        if dice < 0.5:
            other = copy.deepcopy(plain.run)
            pieces = []
            for _ in range(chance.randrange(1, 4)):
                step = other.any_step(chance)
                other.step(step)
                pieces.append(shown_step(step))
            return "do " + " | ".join(pieces)
        if dice < 0.6:
            return chance.choice(("back", f"back {chance.randrange(4)}"))
        return chance.choice((*ROWS, f"known {chance.randrange(2)}.{chance.randrange(3)}.{chance.randrange(3)}",
                              f"purse {chance.randrange(3)}", "do go 9", "do tick | get 1 30 | tick"))

    def spoiled(self, chance, row):
        k = chance.randrange(len(row) + 1)
        sign = chance.choice(" |0123\nx.do")
        return chance.choice((row[:k] + row[k + 1:], row[:k] + sign + row[k:], row[:k] + sign + row[k + 1:]))

    def test_against_a_plain_one(self):
        chance, told = random.Random(90), {}
        for _ in range(40):
            setting = setting_made(chance)
            desk, plain = Desk(), PlainDesk(setting)
            self.says(desk, ("open " + shown_setting(setting).replace("\n", " | "), "ok"))
            for _ in range(80):
                row = self.row(chance, plain)
                if chance.random() < 0.3:
                    row = self.spoiled(chance, row)
                answer = plain.answer(row)
                kind = row.split(" ")[0] if isinstance(answer, str) else answer
                told[kind] = told.get(kind, 0) + 1
                if isinstance(answer, str):
                    self.assertTrue(same(desk.say(row), answer), row)
                else:
                    with self.assertRaises(answer) as caught:
                        desk.say(row)
                    if answer == NoLine:
                        self.assertIs(caught.exception.row, row)
        words = {"do", "back", "steps", "clock", "book", "open", "cells", "letters", "order", "known", "purse"}
        self.assertEqual(set(told), words | {NoLine, NoStep, NoKey, NoBack})
        self.assertGreater(min(told.values()), 10)

    def test_as_a_mill(self):
        chance = random.Random(91)
        for _ in range(20):
            setting = setting_made(chance)
            desk, mill, plain = Desk(), Mill(setting), PlainRun(setting)
            desk.say("open " + shown_setting(setting))
            for _ in range(40):
                step = plain.any_step(chance)
                plain.step(step)
                mill.do(step)
                self.assertEqual(desk.say("do " + shown_step(step)), "1")
            self.assertEqual(desk.say("steps"), str(len(mill)))
            self.assertEqual(desk.say("back 40"), " | ".join(str(mill).split("\n")[::-1]))


class TestApart(Desks):
    def test_two_desks(self):
        one, other = desk_of(), desk_of()
        self.says(one, ("do tick | go 0", "2"))
        self.says(other, ("steps", "0"), ("clock", "0"), ("open", "-"), ("do tick | tick | tick", "3"))
        self.says(one, ("steps", "2"), ("clock", "1"), ("back", "go 0"))
        self.says(other, ("steps", "3"))
        self.no_line(None, "steps")

    def test_asking_changes_nothing(self):
        desk = desk_of("do go 0 | get 0 0 | tick")
        self.assertEqual(all_of(desk), all_of(desk))


if __name__ == "__main__":
    unittest.main()

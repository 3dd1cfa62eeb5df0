"""What the document promises over the whole program: rows of STEPS, and all that is told of them."""

import random
import unittest
from fractions import Fraction

from plain import PlainRun, made_run
from things import same

from twicecalls.books import lets_book
from twicecalls.fair import fair_run
from twicecalls.forgetting import forgotten, owed
from twicecalls.house import asked
from twicecalls.ledgerchecker import lets_ledger
from twicecalls.ledgers import ledger, overdraft
from twicecalls.linechecker import lets_line
from twicecalls.lines import shown_setting, shown_steps
from twicecalls.mill import Mill
from twicecalls.oneline import line_of
from twicecalls.orderchecker import lets_order
from twicecalls.outside import history_of, ordered
from twicecalls.purses import fits, purse_left
from twicecalls.readings import read_setting, read_steps
from twicecalls.runs import run
from twicecalls.settings import allowance_of, call_of, keys_ahead, keys_of
from twicecalls.sound import is_sound
from twicecalls.states import answer_decided, answer_had, begun
from twicecalls.steps import stepped
from twicecalls.stories import outcomes, story_of
from twicecalls.waychecker import lets_way
from twicecalls.waying import way_of

LATE, TICK = ("late",), ("tick",)


def many_rows(seed, many=60, steps=120):
    chance = random.Random(seed)
    for _ in range(many):
        yield made_run(chance, chance.randrange(10, steps), chance.choice((0, 0.1, 0.3)))


def takings_of(events, caller):
    words = {"first": "first", "further": "more"}
    return tuple(words[event[0]] for event in events if event[0] in words and event[1][0] == caller)


class TestPromise(unittest.TestCase):
    """[7]"""

    def test_once_at_most_and_with_its_own_answer(self):
        done = 0
        for plain in many_rows(1):
            state, events = run(plain.setting, tuple(plain.steps))
            decided = [key for event in events if event[0] == "asked" for key in event[2]]
            self.assertEqual(len(decided), len(set(decided)))
            self.assertEqual(decided, [key for key, _ in state[3][1]])
            effects = {}
            for key in decided:
                answer = answer_decided(plain.setting, state, key)
                cell, number, _ = call_of(plain.setting, key)
                if answer != LATE:
                    effects[cell] = effects.get(cell, 0) + number
                    self.assertEqual(answer, ("done", effects[cell]))
                    done += 1
            self.assertEqual(tuple(sorted(effects.items())), state[3][0])
            for key in keys_of(plain.setting):
                had = answer_had(plain.setting, state, key)
                if had is not None:
                    self.assertEqual(had, answer_decided(plain.setting, state, key))
        self.assertGreater(done, 150)

    def test_groups_in_order_without_holes(self):
        for plain in many_rows(2):
            ahead = set()
            for key in run(plain.setting, tuple(plain.steps))[0][3][1]:
                self.assertLessEqual(set(keys_ahead(plain.setting, key[0])), ahead)
                ahead.add(key[0])

    def test_purses(self):
        more = 0
        for plain in many_rows(3):
            state, events = run(plain.setting, tuple(plain.steps))
            for caller in range(len(plain.callers)):
                allowance, takings = allowance_of(plain.setting, caller), takings_of(events, caller)
                rate, most = (Fraction(*part) for part in allowance)
                more += takings.count("more")
                self.assertLessEqual(takings.count("more"), most + rate * takings.count("first"))
                # The very purse that the papers of it have.
                self.assertIs(fits(allowance, takings), True)
                self.assertIsNone(overdraft(allowance, takings))
                self.assertEqual(purse_left(allowance, takings), state[1][caller][0])
                paper = ledger(allowance, takings)
                self.assertEqual(lets_ledger(allowance, takings, paper), state[1][caller][0])
                self.assertGreaterEqual(state[1][caller][0][0], 0)
        self.assertGreater(more, 50)

    def test_what_is_forgotten_no_open_call_asks_for(self):
        many = 0
        for plain in many_rows(4):
            state, _ = run(plain.setting, tuple(plain.steps))
            keys = forgotten(plain.setting, state)
            many += len(keys)
            opened = Mill(plain.setting)
            opened.run(tuple(plain.steps))
            self.assertEqual(set(keys) & set(opened.open_keys()), set())
            for key in owed(plain.setting, state):
                self.assertIn(key, opened.open_keys())
        self.assertGreater(many, 50)

    def test_all_come_through_or_it_is_told_who_cannot(self):
        words = {"through": 0, "stuck": 0}
        for plain in many_rows(5, 100, 60):
            state, _ = run(plain.setting, tuple(plain.steps))
            word, _, _, behind = fair_run(plain.setting, state)
            words[word] += 1
            lacking = 0
            for key in keys_of(plain.setting):
                way = way_of(plain.setting, state, key)
                self.assertEqual(way is None, answer_had(plain.setting, behind, key) is None)
                lacking += way is None
                if way is not None:
                    self.assertEqual(lets_way(plain.setting, state, key, way), len(way))
            self.assertEqual(lacking == 0, word == "through")
        self.assertGreater(min(words.values()), 10)


class TestPapers(unittest.TestCase):
    """What is told of rows of STEPS is let by by the checkers, and is the same whoever tells it."""

    def test_all_of_one_row(self):
        for plain in many_rows(6):
            steps = tuple(plain.steps)
            state, _ = run(plain.setting, steps)
            self.assertIs(is_sound(plain.setting, state), True)
            self.assertEqual(lets_book(plain.setting, state[3][1]), state[3][0])
            self.assertEqual(lets_line(plain.setting, line_of(plain.setting, steps)), state[3][1])
            told = history_of(plain.setting, steps)
            keys = tuple(key for key, _ in state[3][1])
            self.assertIs(lets_order(told, keys), True)
            self.assertIs(lets_order(told, ordered(told)), True)
            self.assertEqual(tuple(row[1:] for row in outcomes(plain.setting, steps)), state[3][1])

    def test_a_mill_tells_the_same(self):
        for plain in many_rows(7):
            mill = Mill(read_setting(shown_setting(plain.setting)))
            mill.run(read_steps(shown_steps(tuple(plain.steps))))
            self.assertTrue(same(mill.state_now(), plain.state()))
            self.assertEqual(mill.history(), history_of(plain.setting, tuple(plain.steps)))
            mill.run(mill.calm_steps())
            self.assertEqual(mill.state_now()[2], ((), ()))
            self.assertTrue(same(mill.then(len(plain.steps)), plain.state()))


class TestHouse(unittest.TestCase):
    """[42]"""

    def test_what_comes_of_one_ask(self):
        told = {"below floor": 0, "below": 0, "next": 0, "waited": 0, "above": 0}
        for plain in many_rows(9, 250):
            state = begun(plain.setting)
            for step in plain.steps:
                behind, event = stepped(plain.setting, state, step)
                if event[0] == "asked":
                    letter = state[2][step[1]][step[2]]
                    told[self.look_at(plain.setting, state, letter)] += 1
                self.check_growth(state[3], behind[3])
                state = behind
        self.assertGreater(min(told.values()), 1)

    def look_at(self, setting, state, letter):
        _, key, _, _, _, heard = letter
        entries = {entry[0]: entry for entry in state[3][2]}
        _, turn, floor, _, waiting = entries.get(key[:2], (key[:2], 0, 0, (), ()))
        floor = max(floor, heard)
        house, tells, keys = asked(setting, state[3], state[0], letter)
        if key[2] < floor or key[2] > turn:
            self.assertEqual((tells, keys), ((), ()))
            word = "below floor" if key[2] < floor else "above"
        elif key[2] < turn:
            self.assertEqual((len(tells), tells[0][1], keys), (1, key, ()))
            word = "below"
        else:
            ready = [key[2]]
            while ready[-1] + 1 in [call[0] for call in waiting]:
                ready.append(ready[-1] + 1)
            self.assertEqual(keys, tuple((*key[:2], n) for n in ready))
            self.assertEqual(tuple(tell[1] for tell in tells), keys)
            word = "next" if len(ready) == 1 else "waited"
        again, _, more = asked(setting, house, state[0] + 5, letter)
        self.assertEqual((again, more), (house, ()))
        return word

    def check_growth(self, house, behind):
        self.assertEqual(behind[1][:len(house[1])], house[1])
        later = {entry[0]: entry for entry in behind[2]}
        for pair, turn, floor, _, _ in house[2]:
            self.assertGreaterEqual(later[pair][1], turn)
            self.assertGreaterEqual(later[pair][2], floor)


def own_cells(setting):
    """A SETTING like this one, in which no two CALLERS have a cell in common."""
    callers = tuple((tuple(tuple((cell + "abc"[c], number, span) for cell, number, span in group) for group in groups),
                     rate, most) for c, (groups, rate, most) in enumerate(setting[0]))
    return (callers, *setting[1:])


class TestSideBySideAndAlone(unittest.TestCase):
    def alone(self, plain, caller):
        """The STEPS of a run that one CALLER has part in, as they are where it is alone."""
        other, steps = PlainRun(plain.setting), []
        for step in plain.steps:
            if step[0] == "go":
                steps += [("go", 0)] if step[1] == caller else []
            elif step[0] in ("get", "lose", "double"):
                word, lane, k = step
                owners = [letter[1][0] for letter in other.lanes[lane]]
                if owners[k] == caller:
                    steps.append((word, lane, owners[:k].count(caller)))
            else:
                steps.append(step)
            other.step(step)
        return tuple(steps)

    def test_each_caller_knows_the_same(self):
        chance, many = random.Random(10), 0
        for _ in range(60):
            plain = made_run(chance, 120, 0.2)
            run_of = PlainRun(own_cells(plain.setting))
            for step in plain.steps:
                run_of.step(step)
            state, _ = run(run_of.setting, tuple(run_of.steps))
            for caller, row in enumerate(run_of.callers):
                alone = ((row,), *run_of.setting[1:])
                steps = self.alone(run_of, caller)
                told, _ = run(alone, steps)
                self.assertTrue(same(told[1], state[1][caller:caller + 1]))
                self.assertEqual([(key[1:], answer) for key, answer in told[3][1]],
                                 [(key[1:], answer) for key, answer in state[3][1] if key[0] == caller])
                many += len(told[3][1])
                for key, _ in told[3][1]:
                    story = story_of(alone, steps, key)
                    self.assertEqual([part is None for part in story],
                                     [part is None for part in
                                      story_of(run_of.setting, tuple(run_of.steps), (caller, *key[1:]))])
        self.assertGreater(many, 150)


class TestOtherNamesAndNumbers(unittest.TestCase):
    def renamed(self, thing, cells, worth):
        """A thing told of a SETTING, as it is told of one with other cells and other numbers."""
        if isinstance(thing, str):
            return cells.get(thing, thing)
        if isinstance(thing, tuple):
            if len(thing) == 2 and thing[0] == "done":
                return ("done", thing[1] * worth)
            if len(thing) == 2 and thing[0] in cells:
                return (cells[thing[0]], thing[1] * worth)
            return tuple(self.renamed(part, cells, worth) for part in thing)
        return thing

    def setting(self, setting, cells, worth):
        callers = tuple((tuple(tuple((cells[cell], number * worth, span) for cell, number, span in group)
                               for group in groups), rate, most) for groups, rate, most in setting[0])
        return (callers, *setting[1:])

    def test_other_cells_and_numbers(self):
        cells, worth = {"safe": "abc", "till": "xyz"}, 1000
        for plain in many_rows(11):
            steps = tuple(plain.steps)
            setting = self.setting(plain.setting, cells, worth)
            one, other = run(plain.setting, steps)[0], run(setting, steps)[0]
            self.assertTrue(same(other[:2], self.renamed(one[:2], cells, worth)))
            self.assertTrue(same(other[3][:2], self.renamed(one[3][:2], cells, worth)))
            told, again = history_of(plain.setting, steps), history_of(setting, steps)
            self.assertEqual([row[0] for row in told], [row[0] for row in again])
            self.assertEqual([row[3:5] for row in told], [row[3:5] for row in again])
            self.assertEqual(ordered(told), ordered(again))
            self.assertEqual(line_of(plain.setting, steps), line_of(setting, steps))

    def test_callers_the_other_way_round(self):
        for plain in many_rows(12):
            many = len(plain.callers)

            def turned(thing):
                return (many - 1 - thing[0], *thing[1:])

            setting = (plain.callers[::-1], *plain.setting[1:])
            steps = tuple(("go", many - 1 - step[1]) if step[0] == "go" else step for step in plain.steps)
            state, _ = run(setting, steps)
            self.assertTrue(same(state[1], plain.state()[1][::-1]))
            self.assertEqual([(turned(key), answer) for key, answer in state[3][1]], list(plain.state()[3][1]))
            self.assertEqual([(k, turned(key), answer) for k, key, answer in outcomes(setting, steps)],
                             list(outcomes(plain.setting, tuple(plain.steps))))
            for key in keys_of(setting):
                self.assertEqual(story_of(setting, steps, key),
                                 story_of(plain.setting, tuple(plain.steps), turned(key)))


class TestLater(unittest.TestCase):
    def later(self, state, by):
        """A STATE to which the same STEPS come, so many ticks later."""
        clock, callers, lanes, house = state
        callers = tuple((purse, tries, tuple((heard, tuple((first + by, last_try + by, lane, answer)
                                                           for first, last_try, lane, answer in calls))
                                             for heard, calls in groups)) for purse, tries, groups in callers)
        lanes = tuple(tuple((*letter[:4], letter[4] + by, letter[5]) if letter[0] == "ask" else letter
                            for letter in lane) for lane in lanes)
        groups = tuple((*entry[:4], tuple((*call[:3], call[3] + by) for call in entry[4])) for entry in house[2])
        return (clock + by, callers, lanes, (*house[:2], groups))

    def test_what_begins_later(self):
        for plain in many_rows(13):
            steps = tuple(plain.steps)
            for by in (1, 7, 100):
                state, _ = run(plain.setting, (TICK,) * by + steps)
                self.assertTrue(same(state, self.later(plain.state(), by)))
                told = tuple((*row[:3], row[3] + by, row[4] + by, row[5]) for row in history_of(plain.setting, steps))
                self.assertTrue(same(history_of(plain.setting, (TICK,) * by + steps), told))
                self.assertEqual(line_of(plain.setting, (TICK,) * by + steps),
                                 (TICK,) * by + line_of(plain.setting, steps))
            one = fair_run(plain.setting, plain.state())
            other = fair_run(plain.setting, self.later(plain.state(), 9))
            self.assertTrue(same(other[:3], one[:3]))
            self.assertTrue(same(other[3], self.later(one[3], 9)))


class TestNothingInBetween(unittest.TestCase):
    def idle(self, plain, chance):
        """STEPS that together do nothing here."""
        rows = [(("go", caller),) for caller in range(len(plain.callers)) if plain.due(caller) == ("nothing",)]
        rows += [(("tear", lane),) for lane in (0, 1) if not plain.lanes[lane]]
        for lane in (0, 1):
            many = len(plain.lanes[lane])
            if many:
                rows.append((("double", lane, chance.randrange(many)), ("lose", lane, many)))
        if not any(group["waits"] for group in plain.house.groups.values()):
            rows.append((("fall",),))
        return chance.choice(rows) if rows else ()

    def test_put_in_between(self):
        chance, more = random.Random(14), 0
        for plain in many_rows(15):
            other, steps = PlainRun(plain.setting), []
            for step in plain.steps:
                idle = self.idle(other, chance)
                more += len(idle)
                for one in idle:
                    other.step(one)
                other.step(step)
            steps = tuple(other.steps)
            state, _ = run(plain.setting, steps, None, len(steps))
            self.assertTrue(same(state, plain.state()))
            self.assertTrue(same(history_of(plain.setting, steps), history_of(plain.setting, tuple(plain.steps))))
            self.assertTrue(same(line_of(plain.setting, steps), line_of(plain.setting, tuple(plain.steps))))
            self.assertEqual([row[1:] for row in outcomes(plain.setting, steps)],
                             [row[1:] for row in outcomes(plain.setting, tuple(plain.steps))])
            mill, like = Mill(plain.setting), Mill(plain.setting)
            mill.run(steps, len(steps))
            like.run(tuple(plain.steps))
            self.assertEqual(mill, like)
        self.assertGreater(more, 1000)


class TestBounds(unittest.TestCase):
    def test_the_greatest_setting(self):
        # [6]: three CALLERS, three GROUPS each, six CALLS a GROUP; great numbers; runs of many STEPS.
        group = (("till", 10 ** 6, 20), ("safe", 10 ** 6, 0)) * 3
        setting = ((((group,) * 3, (1, 10 ** 99), (10 ** 99, 1)),) * 3, 9, 9)
        word, rounds, steps, state = fair_run(setting, begun(setting))
        self.assertEqual((word, rounds, len(state[3][1])), ("through", 2, 54))
        self.assertEqual(state[3][0], (("till", 27 * 10 ** 6),))
        self.assertIs(is_sound(setting, state), True)
        told = history_of(setting, steps)
        self.assertIs(lets_order(told, ordered(told)), True)
        plain, chance = PlainRun(setting), random.Random(16)
        for _ in range(1500):
            plain.step(plain.any_step(chance, 0.1))
        self.assertTrue(same(run(setting, tuple(plain.steps), None, 1500)[0], plain.state()))
        self.assertIs(is_sound(setting, plain.state()), True)

    def test_beyond_twelve_figures(self):
        caller = (((("till", 10 ** 30, 10 ** 30),),), (10 ** 30 + 1, 10 ** 30), (10 ** 40, 1))
        setting = ((caller,), 10 ** 30, 1)
        state, _ = run(setting, (("go", 0), TICK, ("go", 0), ("get", 0, 0), ("get", 1, 0)))
        self.assertEqual(state[3][0], (("till", 10 ** 30),))
        self.assertIs(is_sound(setting, state), True)
        self.assertEqual(fair_run(setting, state)[0], "through")


if __name__ == "__main__":
    unittest.main()

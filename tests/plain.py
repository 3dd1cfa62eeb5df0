"""Callers, lanes and a house written down another way: by dicts and lists that are changed, as DOC.md tells it."""

from fractions import Fraction


class PlainHouse:
    def __init__(self, window):
        self.window = window
        self.cells, self.book, self.groups = {}, {}, {}

    def ask(self, clock, letter):
        """The keys of the "tells" that are sent, in order."""
        _, key, cell, number, last, heard = letter
        group = self.groups.setdefault(key[:2], {"next": 0, "floor": 0, "waits": {}})
        group["floor"] = max(group["floor"], heard)
        if key[2] < group["floor"]:
            return []
        if key in self.book:
            return [key]
        if key[2] == group["next"] or key[2] < group["floor"] + self.window:
            group["waits"].setdefault(key[2], (cell, number, last))
        told = []
        while group["next"] in group["waits"]:
            one = (*key[:2], group["next"])
            self.decide(clock, one, *group["waits"].pop(one[2]))
            group["next"] += 1
            told.append(one)
        return told

    def decide(self, clock, key, cell, number, last):
        if clock > last:
            self.book[key] = ("late",)
        else:
            self.cells[cell] = self.cells.get(cell, 0) + number
            self.book[key] = ("done", self.cells[cell])

    def fall(self):
        for group in self.groups.values():
            group["waits"] = {}

    def as_house(self):
        rows = []
        for pair, group in sorted(self.groups.items()):
            answers = tuple(self.book[(*pair, n)] for n in range(group["floor"], group["next"]))
            waits = tuple((n, *call) for n, call in sorted(group["waits"].items()))
            rows.append((pair, group["next"], group["floor"], answers, waits))
        return (tuple(sorted(self.cells.items())), tuple(self.book.items()), tuple(rows))


class PlainRun:
    def __init__(self, setting):
        self.setting = setting
        self.callers, self.window, self.patience = setting
        self.clock, self.lanes = 0, ([], [])
        self.purses = [Fraction(*most) for _, _, most in self.callers]
        self.tries = [0 for _ in self.callers]
        # Of each KEY tried: [first, last_try, lane, answer].
        self.calls = {}
        self.house = PlainHouse(self.window)
        self.steps, self.events = [], []

    def keys(self, caller=None):
        return [(c, g, n) for c, (groups, _, _) in enumerate(self.callers) if caller in (None, c)
                for g, group in enumerate(groups) for n in range(len(group))]

    def heard(self, pair):
        n = 0
        while self.calls.get((*pair, n), (None,) * 4)[3]:
            n += 1
        return n

    def due(self, caller):
        for key in self.keys(caller):
            if key not in self.calls:
                ahead = (*key[:2], key[2] - 1)
                is_next = key[2] == 0 or ahead in self.calls
                if is_next and key[2] < self.heard(key[:2]) + self.window:
                    return ("first", key, self.tries[caller] % 2)
        for key in self.keys(caller):
            if key in self.calls and self.purses[caller] >= 1:
                _, last_try, lane, answer = self.calls[key]
                if answer is None and self.clock - last_try >= self.patience:
                    return ("further", key, {0: 1, 1: 0}[lane])
        return ("nothing",)

    def go(self, caller):
        told = self.due(caller)
        if told == ("nothing",):
            return told
        word, key, lane = told
        cell, number, span = self.callers[caller][0][key[1]][key[2]]
        if word == "first":
            _, rate, most = self.callers[caller]
            self.purses[caller] = min(self.purses[caller] + Fraction(*rate), Fraction(*most))
            self.calls[key] = [self.clock, self.clock, lane, None]
        else:
            self.purses[caller] -= 1
            self.calls[key][1:3] = [self.clock, lane]
        self.tries[caller] += 1
        self.lanes[lane].append(("ask", key, cell, number, self.calls[key][0] + span, self.heard(key[:2])))
        return told

    def tell(self, key, answer):
        """Whether it is new."""
        is_new = key in self.calls and self.calls[key][3] is None
        if is_new:
            self.calls[key][3] = answer
        return is_new

    def get(self, lane, k):
        letter = self.lanes[lane].pop(k)
        if letter[0] == "tell":
            return ("told", letter[1], self.tell(*letter[1:]))
        before = set(self.house.book)
        told = self.house.ask(self.clock, letter)
        self.lanes[lane].extend(("tell", key, self.house.book[key]) for key in told)
        return ("asked", letter[1], tuple(key for key in told if key not in before))

    def step(self, step):
        """Does a STEP that can be done; its event."""
        event = self.done(step)
        self.steps.append(step)
        self.events.append(event)
        return event

    def done(self, step):
        word, *rest = step
        if word in ("go", "get"):
            return {"go": self.go, "get": self.get}[word](*rest)
        if word == "lose":
            return ("lost", self.lanes[rest[0]].pop(rest[1]))
        if word == "double":
            self.lanes[rest[0]].append(self.lanes[rest[0]][rest[1]])
            return ("doubled", self.lanes[rest[0]][rest[1]])
        if word == "tick":
            self.clock += 1
            return ("clock", self.clock)
        if word == "tear":
            many = len(self.lanes[rest[0]])
            self.lanes[rest[0]].clear()
            return ("torn", many)
        many = sum(len(group["waits"]) for group in self.house.groups.values())
        self.house.fall()
        return ("fallen", many)

    def can(self, step):
        """Whether a STEP, one by kind, can be done."""
        if step[0] == "go":
            return step[1] < len(self.callers)
        return len(step) < 3 or step[2] < len(self.lanes[step[1]])

    def calm_step(self):
        """The "get" of a FAIR ROUND that is next, None where both LANES are void."""
        for lane in (0, 1):
            if self.lanes[lane]:
                return ("get", lane, 0)
        return None

    def fair_round(self):
        while self.calm_step():
            self.step(self.calm_step())
        for caller in range(len(self.callers)):
            while self.due(caller) != ("nothing",):
                self.step(("go", caller))
        self.step(("tick",))

    def is_through(self):
        return all(self.calls.get(key, (None,) * 4)[3] for key in self.keys())

    def is_stuck(self):
        """[65] says it otherwise than [63]: no STEPS at all send a LETTER, whatever ticks."""
        if self.is_through() or self.lanes[0] or self.lanes[1]:
            return False
        clock, self.clock = self.clock, self.clock + self.patience
        idle = all(self.due(caller) == ("nothing",) for caller in range(len(self.callers)))
        self.clock = clock
        return idle

    def fair_run(self):
        """Its word, and how many rounds."""
        rounds = 0
        while not self.is_through() and not self.is_stuck():
            self.fair_round()
            rounds += 1
        return ("through" if self.is_through() else "stuck", rounds)

    def state(self):
        callers = []
        for c, (groups, _, _) in enumerate(self.callers):
            rows = []
            for g, group in enumerate(groups):
                calls = tuple(tuple(self.calls[(c, g, n)]) for n in range(len(group)) if (c, g, n) in self.calls)
                rows.append((self.heard((c, g)), calls))
            purse = (self.purses[c].numerator, self.purses[c].denominator)
            callers.append((purse, self.tries[c], tuple(rows)))
        return (self.clock, tuple(callers), tuple(map(tuple, self.lanes)), self.house.as_house())

    def any_step(self, chance, wild=0.3):
        """A STEP that can be done; wild is how often it is none of "go", "get", "tick"."""
        full = [lane for lane in (0, 1) if self.lanes[lane]]
        if chance.random() < wild:
            lane = chance.choice(full or [0])
            words = ["tear", "fall"] + ["lose", "double"] * (3 if full else 0)
            word = chance.choice(words)
            if word == "fall":
                return ("fall",)
            return ("tear", lane) if word == "tear" else (word, lane, chance.randrange(len(self.lanes[lane])))
        word = chance.choice(("go", "go", "get", "get", "get", "tick"))
        if word == "get" and full:
            lane = chance.choice(full)
            return ("get", lane, chance.randrange(len(self.lanes[lane])))
        return ("tick",) if word == "tick" else ("go", chance.randrange(len(self.callers)))


def setting_made(chance):
    """A SETTING of few CALLERS, with void GROUPS and CALLERS without any."""
    def group():
        return tuple((chance.choice(("till", "safe")), chance.randrange(1, 9), chance.choice((0, 1, 2, 5, 20)))
                     for _ in range(chance.choice((0, 1, 2, 4, 6))))

    callers = tuple((tuple(group() for _ in range(chance.randrange(4))), chance.choice(((0, 1), (1, 2), (1, 1))),
                     chance.choice(((0, 1), (1, 1), (5, 2), (9, 1)))) for _ in range(chance.randrange(1, 4)))
    return (callers, chance.randrange(1, 4), chance.randrange(1, 4))


def made_run(chance, many, wild=0.3, setting=None):
    """A run of so many STEPS, of a SETTING that is made where none is handed in."""
    run = PlainRun(setting_made(chance) if setting is None else setting)
    for _ in range(many):
        run.step(run.any_step(chance, wild))
    return run


def many_runs(chance, many, steps=60):
    """Runs of SETTINGS, some tame and some wild, each a bit longer at every turn of the loop."""
    for _ in range(many):
        run = PlainRun(setting_made(chance))
        wild = chance.choice((0, 0.1, 0.3))
        yield run
        for _ in range(chance.randrange(1, steps)):
            run.step(run.any_step(chance, wild))
            yield run

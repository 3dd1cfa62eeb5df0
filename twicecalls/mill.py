"""A mill: it does STEPS one by one, undoes them, and tells what is known."""

from twicecalls.errors import NoBack, NoKey, NoStep
from twicecalls.kinds import is_count, is_number
from twicecalls.lines import shown_steps
from twicecalls.outside import history_of
from twicecalls.runs import MOST_STEPS, calm_run
from twicecalls.settings import is_key, keys_of
from twicecalls.states import answer_decided, begun, call_tried, is_open
from twicecalls.steps import stepped

MOST_CALM = 200


class Mill:
    """A SETTING with a STATE and the STEPS that came to it."""

    def __init__(self, setting):
        self.setting = setting
        self.state = begun(setting)
        self.steps = []
        # The STATE ahead of each of the STEPS.
        self.ahead = []

    def __len__(self):
        return len(self.steps)

    def __str__(self):
        return str(shown_steps(self.steps))

    def __eq__(self, other):
        return isinstance(other, Mill) and self.setting == other.setting and self.state == other.state

    def do(self, step):
        """Does a STEP; its event."""
        state, event = stepped(self.setting, self.state, step)
        self.ahead.append(self.state)
        self.steps.append(step)
        self.state = state
        return event

    def run(self, steps, most=MOST_STEPS):
        """Does the first ones of STEPS one by one, most at the most; their events."""
        most = MOST_STEPS if most is None else most
        events = []
        for step in steps[:most]:
            events.append(self.do(step))
        return tuple(events)

    def back(self, times=1):
        """Undoes the last so many STEPS; they, the last one first."""
        if not is_count(times) or times > len(self.steps):
            raise NoBack(times)
        k = len(self.steps) - times
        undone = self.steps[k:]
        self.state = self.ahead[k]
        del self.steps[k:]
        del self.ahead[k:]
        return tuple(undone[::-1])

    def then(self, k):
        """The STATE behind the first k STEPS."""
        if not is_number(k) or k > len(self.steps):
            raise NoBack(k)
        return self.ahead[k] if k < len(self.steps) else self.state

    def setting_now(self):
        """Its SETTING."""
        return self.setting

    def state_now(self):
        """Its STATE."""
        return self.state

    def steps_now(self):
        """Its STEPS."""
        return tuple(self.steps)

    def known(self, key):
        """(way, answer): whether a KEY is untried, open or heard; its ANSWER in the book, None of none."""
        if not is_key(self.setting, key):
            raise NoKey(key)
        way = "heard"
        if call_tried(self.state, key) is None:
            way = "untried"
        elif is_open(self.state, key):
            way = "open"
        return (way, answer_decided(self.setting, self.state, key))

    def open_keys(self):
        """All KEYS tried of which the CALLER has no ANSWER, rising."""
        return tuple([key for key in keys_of(self.setting) if is_open(self.state, key)])

    def book_keys(self):
        """The KEYS of the book, in its order."""
        _, book, _ = self.state[3]
        return tuple([key for key, answer in book])

    def history(self):
        """The HISTORY of its STEPS."""
        return history_of(self.setting, tuple(self.steps))

    def purse_of(self, caller):
        """(purse, many): what the purse of a CALLER has, and how many FURTHER TRIES it sent."""
        if not is_number(caller) or caller >= len(self.setting[0]):
            raise NoStep(("go", caller))
        purse, tries, groups = self.state[1][caller]
        # Each CALL tried had one FIRST TRY; all other letters were FURTHER TRIES.
        return (purse, tries - sum([len(calls) for heard, calls in groups]))

    def calm_steps(self, most=MOST_CALM):
        """The STEPS, not done, that get what is on the LANES till both are void, most at the most."""
        steps, _ = calm_run(self.setting, self.state, MOST_CALM if most is None else most)
        return steps

"""The refusals: two families, each refusal straight under one of them.

Each keeps the very things that it is made of, and looks at them in no way.
"""


class CallError(ValueError):
    """What is handed in isn't so; never raised itself."""


class NoPaper(CallError):
    """A checker doesn't let a paper by: word says why, at where."""

    def __init__(self, word, at):
        self.word = word
        self.at = at


class NoSetting(CallError):
    """What is asked can't be of what was handed in: word says why."""

    def __init__(self, word):
        self.word = word


class NoOrder(CallError):
    """A HISTORY has no ORDER: bar says why."""

    def __init__(self, bar):
        self.bar = bar


class NoText(CallError):
    """A text says no such thing: word number word of line number line can't stand."""

    def __init__(self, line, word):
        self.line = line
        self.word = word


class NoLine(CallError):
    """A desk knows no such row."""

    def __init__(self, row):
        self.row = row


class LostError(LookupError):
    """What is asked for isn't there; never raised itself."""


class NoStep(LostError):
    """This STEP can't be."""

    def __init__(self, step):
        self.step = step


class NoKey(LostError):
    """There is no such KEY, or place, or number."""

    def __init__(self, key):
        self.key = key


class NoBack(LostError):
    """There are not so many STEPS."""

    def __init__(self, times):
        self.times = times

"""Papers of purses: a LEDGER where TAKINGS FIT, an OVERDRAFT where they don't."""

from twicecalls.purses import purse_begun, purse_or_none


def ledger(allowance, takings, begin=None):
    """What the purse has behind each word, None where TAKINGS don't FIT."""
    entries = []
    purse = purse_begun(allowance, begin)
    for word in takings:
        purse = purse_or_none(allowance, word, purse)
        if purse is None:
            return None
        entries.append(purse)
    return tuple(entries)


def overdraft(allowance, takings, begin=None):
    """Where "more" is oftener than the purse can bear, (from, to); None where TAKINGS FIT."""
    start = 0
    purse = purse_begun(allowance, begin)
    for k, word in enumerate(takings):
        behind = purse_or_none(allowance, word, purse)
        if behind is None:
            return (start, k)
        # It is full by a "first"; what it couldn't take is lost, so the sums hold from here on alone.
        if behind == allowance[1]:
            start = k + 1
        purse = behind
    return None

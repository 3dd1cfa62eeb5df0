"""The LINE of STEPS: what one LANE, by which nothing is lost, would have brought to the same BOOK."""

from twicecalls.runs import run


def line_of(setting, steps):
    """The LINE of STEPS from the beginning."""
    _, events = run(setting, steps, None, len(steps))
    line = []
    for event in events:
        if event[0] == "clock":
            line.append(("tick",))
        elif event[0] == "first":
            line.append(("try", event[1]))
        elif event[0] == "asked":
            line.extend([("come", key) for key in event[2]])
    return tuple(line)

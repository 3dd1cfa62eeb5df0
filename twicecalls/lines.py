"""STEPS, KEYS and SETTINGS written as lines of words."""


def shown_step(step):
    """A STEP as a text: its things in their order."""
    return " ".join([str(thing) for thing in step])


def shown_steps(steps):
    """STEPS as a text of lines, the empty text of none."""
    return "\n".join([shown_step(step) for step in steps])


def shown_setting(setting):
    """A SETTING as a text of lines."""
    callers, window, patience = setting
    lines = [f"setting {window} {patience}"]
    for groups, rate, most in callers:
        lines.append(f"caller {_shown_fraction(rate)} {_shown_fraction(most)}")
        lines.extend([_shown_group(group) for group in groups])
    return "\n".join(lines)


def shown_key(key):
    """A KEY as one word."""
    return ".".join([str(number) for number in key])


def _shown_fraction(fraction):
    return f"{fraction[0]}/{fraction[1]}"


def _shown_group(group):
    return " ".join(["group", *[f"{cell}:{number}:{span}" for cell, number, span in group]])

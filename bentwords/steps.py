"""One step from a row of letters: one taken out, put in or changed, or two changed about."""

from bentwords.letters import letters_without


def one_step_off(letters):
    """All that is one step from these; what several steps give stands there several times."""
    alphabet = letters_without([])
    steps = []
    for at in range(len(letters) + 1):
        steps.extend(steps_between(letters[:at], letters[at:], alphabet))
    # A letter changed into itself, or two of the same changed about, is no step.
    return [step for step in steps if step != letters]


def steps_between(before, behind, alphabet):
    """What comes of putting a letter in between, and of what can be done to the letters right behind."""
    steps = [before + (letter,) + behind for letter in alphabet]
    if len(behind) > 0:
        rest = behind[1:]
        steps.append(before + rest)
        steps.extend([before + (letter,) + rest for letter in alphabet])
    if len(behind) > 1:
        steps.append(before + (behind[1], behind[0]) + behind[2:])
    return steps

"""The rules of the ring: the states of a section and how a list of states changes."""

SEATED = 0
STANDING = 1
RESTING = 2


def next_section(states, i):
    """Return the number of the section after section i."""
    return (i + 1) % len(states)


def previous_section(states, i):
    """Return the number of the section before section i."""
    return (i - 1) % len(states)


def standing_in(states):
    """Return how many sections are standing."""
    return states.count(STANDING)


def section_after_step(states, i):
    """Return the state of section i after one step."""
    if states[i] == STANDING:
        return RESTING
    if states[i] == RESTING:
        return SEATED
    if states[previous_section(states, i)] == STANDING or states[next_section(states, i)] == STANDING:
        return STANDING
    return SEATED


def after_step(states):
    """Return the states of all sections after one step."""
    return [section_after_step(states, i) for i in range(len(states))]


def after_steps(states, steps):
    """Return the states of all sections after several steps."""
    current = list(states)
    for done in range(steps):
        current = after_step(current)
    return current


def rotated(states, distance):
    """Return the ring in which section i has the state of section i + distance."""
    return [states[(i + distance) % len(states)] for i in range(len(states))]


def mirrored(states):
    """Return the ring in which the first section has the state of the last one, and so on."""
    return [states[len(states) - 1 - i] for i in range(len(states))]

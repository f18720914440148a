"""What becomes of a ring: each function looks at the steps to come and leaves the ring as it is."""

from seatwave.refusals import NeverHappens
from seatwave.rules import SEATED, STANDING, after_step, standing_in

MOST_STEPS_AHEAD = 60


def rings_until_repeat(states):
    """List the ring now and after each step, up to the last one that wasn't there before."""
    rings = []
    current = list(states)
    while current not in rings:
        rings.append(current)
        current = after_step(current)
    return rings


def steps_to_quiet(states):
    """Return after how many steps all sections are seated for the first time."""
    quiet = [SEATED] * len(states)
    rings = rings_until_repeat(states)
    if quiet not in rings:
        raise NeverHappens()
    return rings.index(quiet)


def steps_to_standing(states, i):
    """Return after how many steps section i is standing for the first time."""
    for steps, reached in enumerate(rings_until_repeat(states)):
        if reached[i] == STANDING:
            return steps
    raise NeverHappens()


def cycle_of(states):
    """Return from which step on the ring repeats, and after how many steps it does."""
    rings = rings_until_repeat(states)
    start = rings.index(after_step(rings[-1]))
    return [start, len(rings) - start]


def most_standing(states):
    """Return the greatest number of standing sections now or after one of the steps ahead."""
    current = states
    greatest = standing_in(current)
    for done in range(MOST_STEPS_AHEAD):
        current = after_step(current)
        greatest = max(greatest, standing_in(current))
    return greatest

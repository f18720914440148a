"""What a ring shows at once: its winding number and the waves that travel on it."""

from seatwave.rules import RESTING, SEATED, STANDING, next_section, previous_section


def phase_difference(before, after):
    """Return the phase difference from one state to another: 1, -1 or 0."""
    if after == (before + 1) % 3:
        return 1
    if before == (after + 1) % 3:
        return -1
    return 0


def winding_of(states):
    """Return the winding number of a ring."""
    differences = [phase_difference(states[i], states[next_section(states, i)]) for i in range(len(states))]
    # Going around the ring ends at the state it began with, so the sum is a multiple of 3 and nothing is lost here.
    return sum(differences) // 3


def is_wave(states, i, behind, ahead):
    """Tell whether section i is standing, the section behind it resting and the one ahead of it seated."""
    return states[i] == STANDING and states[behind] == RESTING and states[ahead] == SEATED


def is_forward_wave(states, i):
    """Tell whether a wave is at section i that travels towards the next section."""
    return is_wave(states, i, previous_section(states, i), next_section(states, i))


def is_backward_wave(states, i):
    """Tell whether a wave is at section i that travels towards the previous section."""
    return is_wave(states, i, next_section(states, i), previous_section(states, i))


def forward_waves_in(states):
    """List the sections of the forward waves in increasing order."""
    return [i for i in range(len(states)) if is_forward_wave(states, i)]


def backward_waves_in(states):
    """List the sections of the backward waves in increasing order."""
    return [i for i in range(len(states)) if is_backward_wave(states, i)]

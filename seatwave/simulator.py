"""One simulator: a ring of sections and the number of its completed steps."""

from seatwave.refusals import NoSection, NotSeated, OutOfRange
from seatwave.rules import RESTING, SEATED, STANDING
from seatwave.rules import after_step, after_steps, mirrored, next_section, previous_section, rotated, standing_in

TOWARDS_NEXT = 0
TOWARDS_PREVIOUS = 1
MOST_STEPS = 40
GREATEST_DISTANCE = 12


def require_at_most(value, greatest):
    """Refuse a value that is greater than the greatest one allowed."""
    if value > greatest:
        raise OutOfRange()


class Simulator:
    """A ring of sections; each method checks all its errors before it changes anything."""

    def __init__(self, sections):
        self.states = [SEATED] * sections
        self.time = 0

    def require_section(self, i):
        """Refuse a section that doesn't exist."""
        if i >= len(self.states):
            raise NoSection()

    def require_seated(self, i):
        """Refuse a section that isn't seated."""
        if self.states[i] != SEATED:
            raise NotSeated()

    def set_section(self, i, state):
        """Set the state of section i and return the previous one."""
        self.require_section(i)
        require_at_most(state, RESTING)
        before = self.states[i]
        self.states[i] = state
        return before

    def set_all(self, states):
        """Set the states of all sections and return 0."""
        if len(states) != len(self.states):
            raise OutOfRange()
        for state in states:
            require_at_most(state, RESTING)
        self.states = list(states)
        return 0

    def stand_up(self, i):
        """Make seated section i stand and return how many sections are standing."""
        self.require_section(i)
        self.require_seated(i)
        self.states[i] = STANDING
        return standing_in(self.states)

    def start_wave(self, i, direction):
        """Start a single wave at section i and return how many sections are standing."""
        self.require_section(i)
        require_at_most(direction, TOWARDS_PREVIOUS)
        before = previous_section(self.states, i)
        after = next_section(self.states, i)
        self.require_seated(i)
        self.require_seated(before)
        self.require_seated(after)
        behind = before if direction == TOWARDS_NEXT else after
        self.states[i] = STANDING
        self.states[behind] = RESTING
        return standing_in(self.states)

    def step(self):
        """Perform one step and return how many sections are standing."""
        self.states = after_step(self.states)
        self.time += 1
        return standing_in(self.states)

    def advance(self, steps):
        """Perform several steps and return how many sections are standing."""
        require_at_most(steps, MOST_STEPS)
        self.states = after_steps(self.states, steps)
        self.time += steps
        return standing_in(self.states)

    def rotate(self, distance):
        """Rotate the ring and return the number of sections."""
        require_at_most(distance, GREATEST_DISTANCE)
        self.states = rotated(self.states, distance)
        return len(self.states)

    def mirror(self):
        """Mirror the ring and return the number of sections."""
        self.states = mirrored(self.states)
        return len(self.states)

    def sit_down(self):
        """Make all sections seated and return how many weren't."""
        changed = len(self.states) - self.states.count(SEATED)
        self.states = [SEATED] * len(self.states)
        return changed

    def get_ring(self):
        """Return the number of sections and then their states."""
        return [len(self.states)] + self.states

    def get_section(self, i):
        """Return the state of section i."""
        self.require_section(i)
        return self.states[i]

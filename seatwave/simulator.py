"""One simulator: a ring of sections and the number of its completed steps."""

from seatwave.forecast import cycle_of, most_standing, steps_to_quiet, steps_to_standing
from seatwave.refusals import NoSection, NotSeated, OutOfRange
from seatwave.rules import RESTING, SEATED, STANDING
from seatwave.rules import after_step, after_steps, mirrored, next_section, previous_section, rotated, standing_in
from seatwave.waves import backward_waves_in, forward_waves_in, winding_of

TOWARDS_NEXT = 0
TOWARDS_PREVIOUS = 1
MOST_STEPS = 40
GREATEST_DISTANCE = 12


def require_at_most(value, greatest):
    """Refuse a value that is greater than the greatest one allowed."""
    if value > greatest:
        raise OutOfRange()


class Simulator:
    """A ring of sections; each method checks all its errors before it changes anything."""

    def __init__(self, sections):
        self.states = [SEATED] * sections
        self.time = 0

    def require_section(self, i):
        """Refuse a section that doesn't exist."""
        if i >= len(self.states):
            raise NoSection()

    def require_seated(self, i):
        """Refuse a section that isn't seated."""
        if self.states[i] != SEATED:
            raise NotSeated()

    def set_section(self, i, state):
        """Set the state of section i and return the previous one."""
        self.require_section(i)
        require_at_most(state, RESTING)
        before = self.states[i]
        self.states[i] = state
        return before

    def set_all(self, states):
        """Set the states of all sections and return 0."""
        if len(states) != len(self.states):
            raise OutOfRange()
        for state in states:
            require_at_most(state, RESTING)
        self.states = list(states)
        return 0

    def stand_up(self, i):
        """Make seated section i stand and return how many sections are standing."""
        self.require_section(i)
        self.require_seated(i)
        self.states[i] = STANDING
        return standing_in(self.states)

    def start_wave(self, i, direction):
        """Start a single wave at section i and return how many sections are standing."""
        self.require_section(i)
        require_at_most(direction, TOWARDS_PREVIOUS)
        before = previous_section(self.states, i)
        after = next_section(self.states, i)
        self.require_seated(i)
        self.require_seated(before)
        self.require_seated(after)
        behind = before if direction == TOWARDS_NEXT else after
        self.states[i] = STANDING
        self.states[behind] = RESTING
        return standing_in(self.states)

    def step(self):
        """Perform one step and return how many sections are standing."""
        self.states = after_step(self.states)
        self.time += 1
        return standing_in(self.states)

    def advance(self, steps):
        """Perform several steps and return how many sections are standing."""
        require_at_most(steps, MOST_STEPS)
        self.states = after_steps(self.states, steps)
        self.time += steps
        return standing_in(self.states)

    def rotate(self, distance):
        """Rotate the ring and return the number of sections."""
        require_at_most(distance, GREATEST_DISTANCE)
        self.states = rotated(self.states, distance)
        return len(self.states)

    def mirror(self):
        """Mirror the ring and return the number of sections."""
        self.states = mirrored(self.states)
        return len(self.states)

    def sit_down(self):
        """Make all sections seated and return how many weren't."""
        changed = len(self.states) - self.states.count(SEATED)
        self.states = [SEATED] * len(self.states)
        return changed

    def get_ring(self):
        """Return the number of sections and then their states."""
        return [len(self.states)] + self.states

    def get_section(self, i):
        """Return the state of section i."""
        self.require_section(i)
        return self.states[i]

    def ring_after(self, steps):
        """Return the number of sections and then their states after several steps."""
        require_at_most(steps, MOST_STEPS)
        return [len(self.states)] + after_steps(self.states, steps)

    def winding_number(self):
        """Return 0 and then the winding number."""
        return [0, winding_of(self.states)]

    def steps_until_quiet(self):
        """Return after how many steps the ring is quiet for the first time."""
        return steps_to_quiet(self.states)

    def cycle(self):
        """Return the start and the period of the cycle."""
        return cycle_of(self.states)

    def forward_waves(self):
        """Return the number of forward waves and then their sections."""
        sections = forward_waves_in(self.states)
        return [len(sections)] + sections

    def backward_waves(self):
        """Return the number of backward waves and then their sections."""
        sections = backward_waves_in(self.states)
        return [len(sections)] + sections

    def standing_count(self):
        """Return how many sections are standing."""
        return standing_in(self.states)

    def max_standing(self):
        """Return the greatest number of standing sections now or later."""
        return most_standing(self.states)

    def first_standing(self, i):
        """Return after how many steps section i is standing for the first time."""
        self.require_section(i)
        return steps_to_standing(self.states, i)

    def quiet_if_stand_up(self, i):
        """Return after how many steps the ring would be quiet if seated section i were made to stand."""
        self.require_section(i)
        self.require_seated(i)
        risen = list(self.states)
        risen[i] = STANDING
        return steps_to_quiet(risen)

    def get_state(self):
        """Return the number of sections, of completed steps and of standing sections."""
        return [len(self.states), self.time, standing_in(self.states)]

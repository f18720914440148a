"""One session: calls on one simulator, which create makes."""

from seatwave.calls import ADVANCE, BACKWARD_WAVES, CREATE, CYCLE, FIRST_STANDING, FORWARD_WAVES, GET_RING
from seatwave.calls import GET_SECTION, MAX_STANDING, MIRROR, QUIET_IF_STAND_UP, RING_AFTER, ROTATE, SET_ALL
from seatwave.calls import SET_SECTION, SIT_DOWN, STAND_UP, STANDING_COUNT, START_WAVE, STEP, STEPS_UNTIL_QUIET
from seatwave.calls import WINDING_NUMBER
from seatwave.refusals import NoSimulator, OutOfRange, Refusal
from seatwave.simulator import Simulator

FEWEST_SECTIONS = 3
MOST_SECTIONS = 12


def answer_change(simulator, number, arguments):
    """Answer a call that may change the simulator."""
    if number == SET_SECTION:
        return [simulator.set_section(arguments[0], arguments[1])]
    if number == SET_ALL:
        return [simulator.set_all(arguments)]
    if number == STAND_UP:
        return [simulator.stand_up(arguments[0])]
    if number == START_WAVE:
        return [simulator.start_wave(arguments[0], arguments[1])]
    if number == STEP:
        return [simulator.step()]
    if number == ADVANCE:
        return [simulator.advance(arguments[0])]
    if number == ROTATE:
        return [simulator.rotate(arguments[0])]
    if number == MIRROR:
        return [simulator.mirror()]
    return [simulator.sit_down()]


def answer_query(simulator, number, arguments):
    """Answer a call that never changes the simulator."""
    if number == GET_RING:
        return simulator.get_ring()
    if number == GET_SECTION:
        return [simulator.get_section(arguments[0])]
    if number == RING_AFTER:
        return simulator.ring_after(arguments[0])
    if number == WINDING_NUMBER:
        return simulator.winding_number()
    if number == STEPS_UNTIL_QUIET:
        return [simulator.steps_until_quiet()]
    if number == CYCLE:
        return simulator.cycle()
    if number == FORWARD_WAVES:
        return simulator.forward_waves()
    if number == BACKWARD_WAVES:
        return simulator.backward_waves()
    if number == STANDING_COUNT:
        return [simulator.standing_count()]
    if number == MAX_STANDING:
        return [simulator.max_standing()]
    if number == FIRST_STANDING:
        return [simulator.first_standing(arguments[0])]
    if number == QUIET_IF_STAND_UP:
        return [simulator.quiet_if_stand_up(arguments[0])]
    return simulator.get_state()


class Session:
    """The calls of one session, which begins without a simulator."""

    def __init__(self):
        self.simulator = None

    def answer(self, number, arguments):
        """Return the numbers that answer a call; of a refused one, its code alone."""
        try:
            return self.execute(number, arguments)
        except Refusal as e:
            return [e.code]

    def execute(self, number, arguments):
        """Execute a call and return the numbers that answer it."""
        if number == CREATE:
            return [self.create(arguments[0])]
        if self.simulator is None:
            raise NoSimulator()
        if number <= SIT_DOWN:
            return answer_change(self.simulator, number, arguments)
        return answer_query(self.simulator, number, arguments)

    def create(self, sections):
        """Make a simulator in place of an existing one and return 0."""
        if sections < FEWEST_SECTIONS or sections > MOST_SECTIONS:
            raise OutOfRange()
        self.simulator = Simulator(sections)
        return 0

"""One session: calls on one simulator, which create makes."""

from seatwave.calls import ADVANCE, CREATE, GET_RING, MIRROR, ROTATE, SET_ALL, SET_SECTION, SIT_DOWN
from seatwave.calls import STAND_UP, START_WAVE, STEP
from seatwave.refusals import NoSimulator, OutOfRange, Refusal
from seatwave.simulator import Simulator

FEWEST_SECTIONS = 3
MOST_SECTIONS = 12


def answer_change(simulator, number, arguments):
    """Answer a call that may change the simulator."""
    if number == SET_SECTION:
        return [simulator.set_section(arguments[0], arguments[1])]
    if number == SET_ALL:
        return [simulator.set_all(arguments)]
    if number == STAND_UP:
        return [simulator.stand_up(arguments[0])]
    if number == START_WAVE:
        return [simulator.start_wave(arguments[0], arguments[1])]
    if number == STEP:
        return [simulator.step()]
    if number == ADVANCE:
        return [simulator.advance(arguments[0])]
    if number == ROTATE:
        return [simulator.rotate(arguments[0])]
    if number == MIRROR:
        return [simulator.mirror()]
    return [simulator.sit_down()]


def answer_query(simulator, number, arguments):
    """Answer a call that never changes the simulator."""
    if number == GET_RING:
        return simulator.get_ring()
    return [simulator.get_section(arguments[0])]


class Session:
    """The calls of one session, which begins without a simulator."""

    def __init__(self):
        self.simulator = None

    def answer(self, number, arguments):
        """Return the numbers that answer a call; of a refused one, its code alone."""
        try:
            return self.execute(number, arguments)
        except Refusal as e:
            return [e.code]

    def execute(self, number, arguments):
        """Execute a call and return the numbers that answer it."""
        if number == CREATE:
            return [self.create(arguments[0])]
        if self.simulator is None:
            raise NoSimulator()
        if number <= SIT_DOWN:
            return answer_change(self.simulator, number, arguments)
        return answer_query(self.simulator, number, arguments)

    def create(self, sections):
        """Make a simulator in place of an existing one and return 0."""
        if sections < FEWEST_SECTIONS or sections > MOST_SECTIONS:
            raise OutOfRange()
        self.simulator = Simulator(sections)
        return 0

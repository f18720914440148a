"""The number of completed steps, which no call from 0 to 11 answers."""

import unittest

from seatwave.session import Session
from tests.helper import (
    ADVANCE, CREATE, GET_RING, GET_SECTION, MIRROR, ROTATE, SET_ALL, SET_SECTION, SIT_DOWN, STAND_UP, START_WAVE, STEP)


def time_behind(*calls):
    """The time of the simulator behind these calls, each a number and a list of its arguments."""
    session = Session()
    session.answer(CREATE, [5])
    for number, arguments in calls:
        session.answer(number, arguments)
    return session.simulator.time


class Time(unittest.TestCase):
    def test_begins_at_0(self):
        self.assertEqual(time_behind(), 0)

    def test_counts_steps(self):
        self.assertEqual(time_behind((STEP, []), (STEP, [])), 2)
        self.assertEqual(time_behind((ADVANCE, [40]), (ADVANCE, [0]), (STEP, []), (ADVANCE, [2])), 43)

    def test_a_refused_advance_counts_nothing(self):
        self.assertEqual(time_behind((STEP, []), (ADVANCE, [41])), 1)

    def test_create_begins_anew_unless_it_is_refused(self):
        self.assertEqual(time_behind((STEP, []), (CREATE, [5])), 0)
        self.assertEqual(time_behind((STEP, []), (CREATE, [13])), 1)

    def test_other_calls_leave_it(self):
        others = [
            (SET_SECTION, [0, 1]), (SET_ALL, [0, 0, 0, 0, 0]), (STAND_UP, [2]), (SIT_DOWN, []), (START_WAVE, [1, 0]),
            (ROTATE, [3]), (MIRROR, []), (GET_RING, []), (GET_SECTION, [0])]
        self.assertEqual(time_behind((ADVANCE, [3]), *others), 3)


if __name__ == "__main__":
    unittest.main()

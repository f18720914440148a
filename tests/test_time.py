"""The number of completed steps, which get_state answers."""

import unittest

from tests.helper import (
    ADVANCE, CREATE, GET_RING, GET_STATE, GREATEST, MIRROR, ROTATE, SET_ALL, SET_SECTION, SIT_DOWN, STAND_UP,
    START_WAVE, STEP, play, queries)


def time_behind(*calls):
    """The time behind these calls on a ring of five sections."""
    return play((CREATE, 5), *calls, (GET_STATE,))[-1][1]


class Time(unittest.TestCase):
    def test_begins_at_0(self):
        self.assertEqual(time_behind(), 0)

    def test_counts_steps(self):
        self.assertEqual(time_behind((STEP,), (STEP,)), 2)
        self.assertEqual(time_behind((ADVANCE, 40), (ADVANCE, 0), (STEP,), (ADVANCE, 2)), 43)

    def test_counts_steps_of_a_quiet_ring_and_of_any_other(self):
        for states in ([0] * 5, [2, 1, 0, 0, 0], [1] * 5):
            self.assertEqual(time_behind((SET_ALL, states), (ADVANCE, 39), (STEP,)), 40)

    def test_goes_on_beyond_one_advance(self):
        self.assertEqual(time_behind(*[(ADVANCE, 40)] * 254), 254 * 40)

    def test_a_refused_advance_counts_nothing(self):
        self.assertEqual(time_behind((STEP,), (ADVANCE, 41), (ADVANCE, GREATEST)), 1)

    def test_create_begins_anew_unless_it_is_refused(self):
        self.assertEqual(time_behind((STEP,), (CREATE, 5)), 0)
        self.assertEqual(time_behind((STEP,), (CREATE, 13), (CREATE, 2)), 1)

    def test_other_changes_leave_it(self):
        others = [
            (SET_SECTION, 0, 1), (SET_ALL, [0, 0, 0, 0, 0]), (STAND_UP, 2), (SIT_DOWN,), (START_WAVE, 1, 0),
            (ROTATE, 3), (MIRROR,), (GET_RING,)]
        for other in others:
            self.assertEqual(time_behind((ADVANCE, 3), other), 3, other)
        self.assertEqual(time_behind((ADVANCE, 3), *others), 3)

    def test_queries_leave_it(self):
        for query in queries(5):
            self.assertEqual(time_behind((ADVANCE, 3), (STAND_UP, 2), query), 3, query)


if __name__ == "__main__":
    unittest.main()

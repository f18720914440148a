"""The errors of all operations: their codes, their order, and that a refused call changes nothing."""

import unittest

from tests.helper import (
    ADVANCE, BACKWARD_WAVES, CREATE, CYCLE, FIRST_STANDING, FORWARD_WAVES, GET_RING, GET_SECTION, GET_STATE, GREATEST,
    GREATEST_IN_LIST, MAX_STANDING, MIRROR, NEVER, QUIET_IF_STAND_UP, RING_AFTER, ROTATE, SET_ALL, SET_SECTION,
    SIT_DOWN, STAND_UP, STANDING_COUNT, START_WAVE, STEP, STEPS_UNTIL_QUIET, WINDING_NUMBER, play)

NO_SECTION = [-2]
NO_SIMULATOR = [-11]
NOT_SEATED = [-17]
OUT_OF_RANGE = [-22]
NEVER_HAPPENS = [NEVER]


class RefusalCase(unittest.TestCase):
    def assert_refused(self, states, call, code):
        """The call is answered by the code alone, and ring and time are and go on as without it."""
        begin = [(CREATE, len(states)), (ADVANCE, 7), (SET_ALL, list(states))]
        follow = [(GET_RING,), (GET_STATE,), (STEP,), (GET_RING,), (GET_STATE,)]
        refused = play(*begin, call, *follow)
        self.assertEqual(refused[3], code, (states, call))
        self.assertEqual(refused[4], [len(states)] + list(states), (states, call))
        self.assertEqual(refused[5], [len(states), 7, states.count(1)], (states, call))
        self.assertEqual(refused[4:], play(*begin, *follow)[3:], (states, call))


class CreateErrors(unittest.TestCase):
    def test_sections_out_of_range(self):
        for sections in (0, 1, 2, 13, 14, 256, 65536, GREATEST):
            self.assertEqual(play((CREATE, sections), (GET_RING,)), [OUT_OF_RANGE, NO_SIMULATOR])

    def test_an_existing_simulator_is_kept(self):
        for sections in (0, 2, 13, GREATEST):
            answer = play((CREATE, 4), (SET_ALL, [0, 1, 2, 0]), (CREATE, sections), (GET_RING,), (STEP,), (GET_RING,))
            self.assertEqual(answer[2:], [OUT_OF_RANGE, [4, 0, 1, 2, 0], [1], [4, 1, 2, 0, 0]])


class NoSimulatorYet(unittest.TestCase):
    good = [
        (SET_SECTION, 0, 1), (SET_ALL, [0, 0, 0]), (STAND_UP, 0), (START_WAVE, 0, 0), (STEP,), (ADVANCE, 1),
        (ROTATE, 1), (MIRROR,), (SIT_DOWN,), (GET_RING,), (GET_SECTION, 0), (RING_AFTER, 0), (WINDING_NUMBER,),
        (STEPS_UNTIL_QUIET,), (CYCLE,), (FORWARD_WAVES,), (BACKWARD_WAVES,), (STANDING_COUNT,), (MAX_STANDING,),
        (FIRST_STANDING, 0), (QUIET_IF_STAND_UP, 0), (GET_STATE,)]
    bad = [
        (SET_SECTION, GREATEST, GREATEST), (SET_ALL, []), (SET_ALL, [GREATEST_IN_LIST] * 16), (STAND_UP, GREATEST),
        (START_WAVE, GREATEST, GREATEST), (ADVANCE, GREATEST), (ROTATE, GREATEST), (GET_SECTION, GREATEST),
        (RING_AFTER, GREATEST), (FIRST_STANDING, GREATEST), (QUIET_IF_STAND_UP, GREATEST)]

    def test_before_create(self):
        for call in self.good + self.bad:
            self.assertEqual(play(call), [NO_SIMULATOR], call)

    def test_behind_a_create_that_was_refused(self):
        for call in self.good + self.bad:
            self.assertEqual(play((CREATE, 2), call, (CREATE, 13), call)[1::2], [NO_SIMULATOR] * 2, call)

    def test_create_can_still_succeed(self):
        answer = play(*self.good, *self.bad, (CREATE, 3), (GET_RING,))
        self.assertEqual(answer[-2:], [[0], [3, 0, 0, 0]])


class SectionErrors(RefusalCase):
    def test_no_such_section(self):
        for states in ([0, 0, 0], [0, 0, 0, 0, 1, 2], [0] * 12):
            n = len(states)
            for i in (n, n + 1, 65536, GREATEST):
                for call in ((SET_SECTION, i, 1), (STAND_UP, i), (START_WAVE, i, 0), (START_WAVE, i, 1),
                             (GET_SECTION, i), (FIRST_STANDING, i), (QUIET_IF_STAND_UP, i)):
                    self.assert_refused(states, call, NO_SECTION)

    def test_no_such_section_is_checked_first(self):
        for i in (3, GREATEST):
            self.assert_refused([1, 2, 1], (SET_SECTION, i, 3), NO_SECTION)
            self.assert_refused([1, 2, 1], (SET_SECTION, i, GREATEST), NO_SECTION)
            self.assert_refused([1, 2, 1], (STAND_UP, i), NO_SECTION)
            self.assert_refused([1, 2, 1], (START_WAVE, i, 2), NO_SECTION)
            self.assert_refused([1, 2, 1], (START_WAVE, i, GREATEST), NO_SECTION)
            self.assert_refused([1, 2, 1], (QUIET_IF_STAND_UP, i), NO_SECTION)

    def test_no_such_section_is_checked_before_what_never_happens(self):
        for i in (3, GREATEST):
            for states in ([0, 0, 0], [0, 1, 2], [2, 0, 0]):
                self.assert_refused(states, (FIRST_STANDING, i), NO_SECTION)
                self.assert_refused(states, (QUIET_IF_STAND_UP, i), NO_SECTION)


class RangeErrors(RefusalCase):
    def test_set_section_to_a_state_above_2(self):
        for state in (3, 4, 255, 65536, GREATEST):
            for i in (0, 3):
                self.assert_refused([2, 0, 0, 1], (SET_SECTION, i, state), OUT_OF_RANGE)

    def test_set_all_with_another_number_of_states(self):
        for states in ([0, 1, 2], [1, 0, 0, 2, 0, 0], [1, 2, 0] * 4):
            for count in range(17):
                if count != len(states):
                    self.assert_refused(states, (SET_ALL, [1] * count), OUT_OF_RANGE)

    def test_set_all_with_a_state_above_2(self):
        for state in (3, 4, 256, GREATEST_IN_LIST):
            for i in range(5):
                wrong = [2, 1, 0, 1, 2]
                wrong[i] = state
                self.assert_refused([0, 1, 0, 0, 0], (SET_ALL, wrong), OUT_OF_RANGE)

    def test_set_all_with_both_faults(self):
        for count in (1, 2, 4, 16):
            self.assert_refused([0, 1, 0], (SET_ALL, [GREATEST_IN_LIST] * count), OUT_OF_RANGE)

    def test_start_wave_in_a_direction_above_1(self):
        for direction in (2, 3, 65536, GREATEST):
            for i in (0, 1, 3):
                self.assert_refused([0, 0, 0, 0], (START_WAVE, i, direction), OUT_OF_RANGE)

    def test_direction_is_checked_before_the_seats(self):
        for states in ([1, 0, 0, 0], [2, 0, 0, 0], [0, 1, 0, 0], [0, 0, 0, 2], [1, 1, 1, 1]):
            for direction in (2, GREATEST):
                self.assert_refused(states, (START_WAVE, 0, direction), OUT_OF_RANGE)

    def test_advance_more_than_40_steps(self):
        for steps in (41, 42, 60, 65536, GREATEST):
            self.assert_refused([0, 0, 2, 1, 0, 0], (ADVANCE, steps), OUT_OF_RANGE)

    def test_ring_after_more_than_40_steps(self):
        for steps in (41, 42, 60, 65536, GREATEST):
            for states in ([0, 0, 2, 1, 0, 0], [0] * 12):
                self.assert_refused(states, (RING_AFTER, steps), OUT_OF_RANGE)

    def test_rotate_by_more_than_12(self):
        for distance in (13, 14, 24, 65536, GREATEST):
            self.assert_refused([0, 0, 2, 1, 0, 0], (ROTATE, distance), OUT_OF_RANGE)


class SeatErrors(RefusalCase):
    def test_stand_up_where_a_section_is_not_seated(self):
        for n in (3, 12):
            for i in (0, 1, n - 1):
                for state in (1, 2):
                    states = [0] * n
                    states[i] = state
                    self.assert_refused(states, (STAND_UP, i), NOT_SEATED)

    def test_quiet_if_stand_up_where_a_section_is_not_seated(self):
        for n in (3, 12):
            for i in (0, 1, n - 1):
                for state in (1, 2):
                    states = [0] * n
                    states[i] = state
                    self.assert_refused(states, (QUIET_IF_STAND_UP, i), NOT_SEATED)

    def test_seat_is_checked_before_what_never_happens(self):
        for states in ([1, 2, 0], [2, 1, 0], [1, 2] + [0] * 10):
            for i in (0, 1):
                self.assert_refused(states, (QUIET_IF_STAND_UP, i), NOT_SEATED)

    def test_start_wave_where_a_section_or_a_neighbor_is_not_seated(self):
        for n in (3, 4, 12):
            for i in range(n):
                for other in (i, (i - 1) % n, (i + 1) % n):
                    for state in (1, 2):
                        states = [0] * n
                        states[other] = state
                        self.assert_refused(states, (START_WAVE, i, 0), NOT_SEATED)
                        self.assert_refused(states, (START_WAVE, i, 1), NOT_SEATED)

    def test_start_wave_does_not_ask_who_sits_farther_away(self):
        answer = play((CREATE, 5), (SET_ALL, [0, 0, 1, 2, 0]), (START_WAVE, 0, 0), (GET_RING,))
        self.assertEqual(answer[2:], [[2], [5, 1, 0, 1, 2, 2]])


class NeverErrors(RefusalCase):
    def test_steps_until_quiet_where_waves_run_forever(self):
        for states in ([0, 1, 2], [2, 1, 0], [2, 1, 0, 0], [0, 1, 2] * 4, [2, 1] + [0] * 10, [0, 1, 1, 2]):
            self.assert_refused(states, (STEPS_UNTIL_QUIET,), NEVER_HAPPENS)

    def test_first_standing_where_a_section_never_stands(self):
        for i in (0, 2):
            for states in ([0, 0, 0], [2, 0, 0], [2, 2, 2], [2, 1, 2]):
                self.assert_refused(states, (FIRST_STANDING, i), NEVER_HAPPENS)
        for i in (0, 11):
            self.assert_refused([0] * 12, (FIRST_STANDING, i), NEVER_HAPPENS)

    def test_quiet_if_stand_up_where_waves_would_run_forever(self):
        for states, i in (([2, 0, 0], 1), ([2, 0, 0], 2), ([2, 1, 0, 0], 2), ([0, 1, 2, 0], 0), ([0] * 11 + [2], 0)):
            self.assert_refused(states, (QUIET_IF_STAND_UP, i), NEVER_HAPPENS)


if __name__ == "__main__":
    unittest.main()

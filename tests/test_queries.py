"""Operations 10 to 13, 16 to 18 and 22, which tell of the ring as it is, and ring_after; nothing is refused."""

import unittest

from tests.helper import (
    ADVANCE, BACKWARD_WAVES, CREATE, FORWARD_WAVES, GET_RING, GET_SECTION, GET_STATE, MIRROR, RING_AFTER, ROTATE,
    SET_ALL, STAND_UP, STANDING_COUNT, START_WAVE, STEP, WINDING_NUMBER, every_ring, play, play_on, rings_ahead,
    sample_rings)

# By two neighboring states: the phase difference from the first to the second.
PHASE_DIFFERENCES = {
    (0, 0): 0, (0, 1): 1, (0, 2): -1, (1, 0): -1, (1, 1): 0, (1, 2): 1, (2, 0): 1, (2, 1): -1, (2, 2): 0}


class GetRingAndSection(unittest.TestCase):
    def test_they_agree(self):
        for states in sample_rings():
            n = len(states)
            answer = play_on(states, (GET_RING,), *[(GET_SECTION, i) for i in range(n)])
            self.assertEqual(answer, [[n] + states] + [[state] for state in states])

    def test_section_of_the_first_and_the_last(self):
        answer = play_on([1, 0, 2], (GET_SECTION, 0), (GET_SECTION, 1), (GET_SECTION, 2))
        self.assertEqual(answer, [[1], [0], [2]])


class RingAfter(unittest.TestCase):
    def test_every_number_of_steps(self):
        for states in sample_rings():
            n = len(states)
            ahead = rings_ahead(states, 40)
            answer = play_on(states, *[(RING_AFTER, steps) for steps in range(41)], (GET_RING,))
            self.assertEqual(answer, [[n] + ring for ring in ahead] + [[n] + states])

    def test_is_what_advance_leads_to(self):
        for states in ([0, 0, 2, 1, 0, 0, 0], [1, 0, 2, 2, 0], [1, 0, 0], [2, 1, 0, 0, 0, 0, 0, 0, 0, 1, 0, 1]):
            for steps in (0, 1, 2, 39, 40):
                answer = play_on(states, (RING_AFTER, steps), (ADVANCE, steps), (GET_RING,))
                self.assertEqual(answer[0], answer[2])

    def test_no_step(self):
        self.assertEqual(play_on([2, 1, 0, 1], (RING_AFTER, 0)), [[4, 2, 1, 0, 1]])

    def test_forty_steps_of_a_wave_around_twelve_sections(self):
        answer = play((CREATE, 12), (START_WAVE, 3, 0), (RING_AFTER, 40), (GET_STATE,))
        self.assertEqual(answer[2:], [[12, 0, 0, 0, 0, 0, 0, 2, 1, 0, 0, 0, 0], [12, 0, 1]])

    def test_smallest_ring(self):
        answer = play_on([1, 0, 0], *[(RING_AFTER, steps) for steps in range(4)])
        self.assertEqual(answer, [[3, 1, 0, 0], [3, 2, 1, 1], [3, 0, 2, 2], [3, 0, 0, 0]])


class WindingNumber(unittest.TestCase):
    def assert_winding(self, states, number):
        self.assertEqual(play_on(states, (WINDING_NUMBER,)), [[0, number]], states)

    def test_quiet_rings(self):
        for n in range(3, 13):
            self.assert_winding([0] * n, 0)

    def test_rings_of_one_state(self):
        for n in (3, 4, 12):
            self.assert_winding([1] * n, 0)
            self.assert_winding([2] * n, 0)

    def test_smallest_ring(self):
        for states in ([0, 1, 2], [1, 2, 0], [2, 0, 1]):
            self.assert_winding(states, 1)
            self.assert_winding(states[::-1], -1)

    def test_above_and_below_0_at_their_greatest(self):
        for waves in (1, 2, 3, 4):
            self.assert_winding([0, 1, 2] * waves, waves)
            self.assert_winding([2, 1, 0] * waves, -waves)

    def test_single_waves(self):
        for n in (3, 4, 7, 12):
            for i in (0, 1, n - 1):
                answer = play((CREATE, n), (START_WAVE, i, 0), (WINDING_NUMBER,))
                self.assertEqual(answer[2], [0, -1])
                answer = play((CREATE, n), (START_WAVE, i, 1), (WINDING_NUMBER,))
                self.assertEqual(answer[2], [0, 1])

    def test_waves_against_each_other(self):
        self.assert_winding([2, 1, 0, 0, 1, 2], 0)
        self.assert_winding([2, 1, 0, 2, 1, 0, 0, 1, 2], -1)

    def test_is_a_third_of_the_phase_differences(self):
        for states in every_ring():
            total = sum(PHASE_DIFFERENCES[pair] for pair in zip(states, states[1:] + states[:1]))
            self.assertEqual(total % 3, 0)
            self.assert_winding(states, total // 3)


class Waves(unittest.TestCase):
    def assert_waves(self, states, forward, backward):
        answer = play_on(states, (FORWARD_WAVES,), (BACKWARD_WAVES,))
        self.assertEqual(answer, [[len(forward)] + forward, [len(backward)] + backward], states)

    def test_no_wave(self):
        for states in ([0] * 3, [0] * 12, [1] * 5, [2] * 5, [0, 1, 0, 0], [2, 1, 2, 0], [1, 1, 2, 2], [2, 1, 1, 2]):
            self.assert_waves(states, [], [])

    def test_one_wave_at_every_section_of_every_size(self):
        for n in range(3, 13):
            for i in range(n):
                calls = ((FORWARD_WAVES,), (BACKWARD_WAVES,))
                self.assertEqual(play((CREATE, n), (START_WAVE, i, 0), *calls)[2:], [[1, i], [0]])
                self.assertEqual(play((CREATE, n), (START_WAVE, i, 1), *calls)[2:], [[0], [1, i]])

    def test_several_waves_in_increasing_order(self):
        self.assert_waves([1, 0, 2, 1, 0, 0, 2, 1, 0, 0, 0, 2], [0, 3, 7], [])
        self.assert_waves([2, 0, 1, 2, 0, 0, 1, 2, 0, 0, 0, 1], [], [2, 6, 11])
        self.assert_waves([2, 1, 0] * 4, [1, 4, 7, 10], [])
        self.assert_waves([0, 1, 2] * 4, [], [1, 4, 7, 10])

    def test_both_directions_at_once(self):
        self.assert_waves([2, 1, 0, 0, 1, 2], [1], [4])
        self.assert_waves([1, 2, 0, 2, 1, 0, 0, 0], [4], [0])

    def test_smallest_ring(self):
        self.assert_waves([1, 0, 2], [0], [])
        self.assert_waves([1, 2, 0], [], [0])
        self.assert_waves([0, 2, 1], [2], [])
        self.assert_waves([2, 0, 1], [], [2])

    def test_standing_resting_and_seated_sections_in_every_ring(self):
        for states in every_ring():
            n = len(states)
            around = [(states[i - 1], states[i], states[(i + 1) % n]) for i in range(n)]
            forward = [i for i in range(n) if around[i] == (2, 1, 0)]
            backward = [i for i in range(n) if around[i] == (0, 1, 2)]
            self.assert_waves(states, forward, backward)


class StandingCount(unittest.TestCase):
    def test_counts_the_standing_sections_alone(self):
        for states in every_ring():
            self.assertEqual(play_on(states, (STANDING_COUNT,)), [[states.count(1)]])

    def test_none_and_all(self):
        for n in (3, 12):
            self.assertEqual(play((CREATE, n), (STANDING_COUNT,)), [[0], [0]])
            self.assertEqual(play_on([1] * n, (STANDING_COUNT,), (STEP,), (STANDING_COUNT,)), [[n], [0], [0]])


class GetState(unittest.TestCase):
    def test_behind_create(self):
        for n in range(3, 13):
            self.assertEqual(play((CREATE, n), (GET_STATE,)), [[0], [n, 0, 0]])

    def test_each_number_is_its_own(self):
        answer = play((CREATE, 7), (SET_ALL, [1, 0, 1, 2, 1, 0, 0]), (GET_STATE,), (ADVANCE, 0), (GET_STATE,))
        self.assertEqual(answer[2:], [[7, 0, 3], [3], [7, 0, 3]])
        answer = play((CREATE, 12), (STAND_UP, 0), (ADVANCE, 5), (GET_STATE,))
        self.assertEqual(answer[2:], [[2], [12, 5, 2]])

    def test_counts_as_standing_count_does(self):
        for states in sample_rings():
            answer = play_on(states, (ADVANCE, 2), (STANDING_COUNT,), (ROTATE, 1), (MIRROR,), (GET_STATE,))
            self.assertEqual(answer[-1], [len(states), 2] + answer[1])


if __name__ == "__main__":
    unittest.main()

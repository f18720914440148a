"""Operations 0 to 9 where nothing is refused."""

import unittest

from tests.helper import (
    ADVANCE, CREATE, GET_RING, MIRROR, ROTATE, SET_ALL, SET_SECTION, SIT_DOWN, STAND_UP, START_WAVE, STEP, all_rings,
    play, play_on, ring_behind, sample_rings)


class Create(unittest.TestCase):
    def test_every_number_of_sections(self):
        for sections in range(3, 13):
            self.assertEqual(play((CREATE, sections), (GET_RING,)), [[0], [sections] + [0] * sections])

    def test_replaces_an_existing_simulator(self):
        calls = [(CREATE, 4), (STAND_UP, 1), (STEP,), (CREATE, 6), (GET_RING,), (CREATE, 6), (GET_RING,)]
        self.assertEqual(play(*calls)[3:], [[0], [6, 0, 0, 0, 0, 0, 0]] * 2)

    def test_replaces_one_of_the_same_size(self):
        self.assertEqual(play((CREATE, 3), (SET_ALL, [1, 2, 0]), (CREATE, 3), (GET_RING,))[2:], [[0], [3, 0, 0, 0]])


class SetSection(unittest.TestCase):
    def test_returns_the_previous_state_and_sets_the_new_one(self):
        for before in range(3):
            for after in range(3):
                answer = play_on([0, before, 2, 1], (SET_SECTION, 1, after), (GET_RING,))
                self.assertEqual(answer, [[before], [4, 0, after, 2, 1]])

    def test_first_and_last_section(self):
        answer = play((CREATE, 12), (SET_SECTION, 0, 1), (SET_SECTION, 11, 2), (SET_SECTION, 11, 1), (GET_RING,))
        self.assertEqual(answer[1:], [[0], [0], [2], [12, 1, 0, 0, 0, 0, 0, 0, 0, 0, 0, 0, 1]])


class SetAll(unittest.TestCase):
    def test_every_ring_of_four_sections(self):
        for states in all_rings(4):
            answer = play((CREATE, 4), (SET_ALL, list(states)), (GET_RING,))
            self.assertEqual(answer, [[0], [0], [4] + list(states)])

    def test_smallest_and_largest_ring(self):
        for states in ([2, 1, 0], [2, 1, 0, 1, 2, 2, 0, 0, 1, 1, 0, 2]):
            answer = play((CREATE, len(states)), (SET_ALL, states), (GET_RING,))
            self.assertEqual(answer, [[0], [0], [len(states)] + states])

    def test_set_section_does_not_reach_a_ring_set_later(self):
        states = [1, 2, 0]
        answer = play((CREATE, 3), (SET_ALL, states), (SET_SECTION, 0, 0), (SET_ALL, states), (GET_RING,))
        self.assertEqual(answer, [[0], [0], [1], [0], [3, 1, 2, 0]])


class StandUp(unittest.TestCase):
    def test_counts_the_standing_sections_alone(self):
        answer = play_on([2, 0, 1, 0, 2], (STAND_UP, 1), (STAND_UP, 3), (GET_RING,))
        self.assertEqual(answer, [[2], [3], [5, 2, 1, 1, 1, 2]])

    def test_every_section_of_every_size(self):
        for sections in range(3, 13):
            calls = [(STAND_UP, i) for i in range(sections)]
            answer = play((CREATE, sections), *calls, (GET_RING,))
            self.assertEqual(answer[1:-1], [[i + 1] for i in range(sections)])
            self.assertEqual(answer[-1], [sections] + [1] * sections)

    def test_first_and_last_section_alone(self):
        self.assertEqual(play((CREATE, 3), (STAND_UP, 0), (GET_RING,))[1:], [[1], [3, 1, 0, 0]])
        self.assertEqual(play((CREATE, 3), (STAND_UP, 2), (GET_RING,))[1:], [[1], [3, 0, 0, 1]])


class StartWave(unittest.TestCase):
    def test_every_section_and_direction_of_every_size(self):
        for sections in range(3, 13):
            for i in range(sections):
                for direction, behind in ((0, (i - 1) % sections), (1, (i + 1) % sections)):
                    states = [0] * sections
                    states[i] = 1
                    states[behind] = 2
                    answer = play((CREATE, sections), (START_WAVE, i, direction), (GET_RING,))
                    self.assertEqual(answer[1:], [[1], [sections] + states])

    def test_counts_the_other_standing_sections_too(self):
        answer = play_on([1, 0, 0, 0, 2, 1], (START_WAVE, 2, 1), (GET_RING,))
        self.assertEqual(answer, [[3], [6, 1, 0, 1, 2, 2, 1]])

    def test_waves_run_in_their_directions(self):
        self.assertEqual(ring_behind([0] * 6, (START_WAVE, 5, 0), (STEP,)), [1, 0, 0, 0, 0, 2])
        self.assertEqual(ring_behind([0] * 6, (START_WAVE, 0, 1), (STEP,)), [2, 0, 0, 0, 0, 1])


class Step(unittest.TestCase):
    def test_returns_the_standing_sections_afterwards(self):
        answer = play_on([0, 0, 1, 0, 0, 0], (STEP,), (GET_RING,), (STEP,), (GET_RING,))
        self.assertEqual(answer, [[2], [6, 0, 1, 2, 1, 0, 0], [2], [6, 1, 2, 0, 2, 1, 0]])

    def test_first_and_last_section_are_neighbors(self):
        self.assertEqual(play_on([1, 0, 0, 0], (STEP,), (GET_RING,)), [[2], [4, 2, 1, 0, 1]])
        self.assertEqual(play_on([0, 0, 0, 1], (STEP,), (GET_RING,)), [[2], [4, 1, 0, 1, 2]])

    def test_each_state_alone(self):
        self.assertEqual(play_on([0] * 3, (STEP,), (GET_RING,)), [[0], [3, 0, 0, 0]])
        self.assertEqual(play_on([1] * 3, (STEP,), (GET_RING,)), [[0], [3, 2, 2, 2]])
        self.assertEqual(play_on([2] * 3, (STEP,), (GET_RING,)), [[0], [3, 0, 0, 0]])

    def test_all_sections_change_at_the_same_time(self):
        self.assertEqual(ring_behind([1, 0, 0, 0, 0, 0, 2], (STEP,)), [2, 1, 0, 0, 0, 0, 0])


class Advance(unittest.TestCase):
    def test_is_that_many_steps(self):
        for states in ([0, 0, 2, 1, 0, 0, 0], [1, 0, 2, 2, 0], [0] * 4, [1, 0, 0, 0, 0, 0, 0, 2, 1, 0, 2, 0]):
            for steps in (0, 1, 2, 3, 7, 39, 40):
                stepped = play_on(states, *[(STEP,)] * steps, (GET_RING,))[-1]
                answer = play_on(states, (ADVANCE, steps), (GET_RING,))
                self.assertEqual(answer, [[stepped[1:].count(1)], stepped])

    def test_no_step_counts_the_standing_sections_now(self):
        self.assertEqual(play_on([1, 1, 0, 2], (ADVANCE, 0), (GET_RING,)), [[2], [4, 1, 1, 0, 2]])

    def test_forty_steps_of_a_wave_around_twelve_sections(self):
        answer = play((CREATE, 12), (START_WAVE, 3, 0), (ADVANCE, 40), (GET_RING,))
        self.assertEqual(answer[2:], [[1], [12, 0, 0, 0, 0, 0, 0, 2, 1, 0, 0, 0, 0]])


class Rotate(unittest.TestCase):
    def test_section_gets_the_state_that_lies_the_distance_ahead(self):
        self.assertEqual(play_on([1, 2, 0, 0, 0], (ROTATE, 1), (GET_RING,)), [[5], [5, 2, 0, 0, 0, 1]])
        self.assertEqual(play_on([0, 1, 2, 0, 0], (ROTATE, 4), (GET_RING,)), [[5], [5, 0, 0, 1, 2, 0]])

    def test_distance_0(self):
        self.assertEqual(play_on([1, 2, 0, 0], (ROTATE, 0), (GET_RING,)), [[4], [4, 1, 2, 0, 0]])

    def test_distance_12(self):
        self.assertEqual(play_on([1, 2, 0, 0, 0], (ROTATE, 12), (GET_RING,)), [[5], [5, 0, 0, 0, 1, 2]])

    def test_every_distance(self):
        for states in sample_rings():
            for distance in range(13):
                n = len(states)
                rotated = [states[(i + distance) % n] for i in range(n)]
                self.assertEqual(play_on(states, (ROTATE, distance), (GET_RING,)), [[n], [n] + rotated])


class Mirror(unittest.TestCase):
    def test_even_and_odd_sizes(self):
        self.assertEqual(play_on([1, 2, 0, 0], (MIRROR,), (GET_RING,)), [[4], [4, 0, 0, 2, 1]])
        self.assertEqual(play_on([1, 2, 0], (MIRROR,), (GET_RING,)), [[3], [3, 0, 2, 1]])

    def test_every_size(self):
        for states in sample_rings():
            n = len(states)
            self.assertEqual(play_on(states, (MIRROR,), (GET_RING,)), [[n], [n] + states[::-1]])


class SitDown(unittest.TestCase):
    def test_counts_standing_and_resting_sections(self):
        for states in all_rings(4):
            answer = play_on(states, (SIT_DOWN,), (GET_RING,), (SIT_DOWN,))
            self.assertEqual(answer, [[4 - states.count(0)], [4, 0, 0, 0, 0], [0]])

    def test_largest_ring(self):
        self.assertEqual(play_on([1, 2] * 6, (SIT_DOWN,), (GET_RING,)), [[12], [12] + [0] * 12])


if __name__ == "__main__":
    unittest.main()

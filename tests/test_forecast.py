"""Operations 14, 15 and 19 to 21, which tell of the steps to come."""

import unittest

from tests.helper import (
    CREATE, CYCLE, FIRST_STANDING, MAX_STANDING, NEVER, QUIET_IF_STAND_UP, SIT_DOWN, STAND_UP, START_WAVE, STEP,
    STEPS_UNTIL_QUIET, every_ring, play, play_on, rings_ahead)


def steps_to(rings, wanted):
    """How many steps lead to the first ring of this kind, or the code of what never happens."""
    return next((steps for steps, ring in enumerate(rings) if wanted(ring)), NEVER)


def quiet(ring):
    """Whether all sections of a ring are seated."""
    return set(ring) == {0}


class EveryRing(unittest.TestCase):
    """What is told of a ring, held against its next 60 steps, performed one by one."""

    def assert_forecast(self, states):
        n = len(states)
        rings = rings_ahead(states)
        first = [steps_to(rings, lambda ring: ring[i] == 1) for i in range(n)]
        answer = play_on(
            states, (STEPS_UNTIL_QUIET,), (MAX_STANDING,), *[(FIRST_STANDING, i) for i in range(n)])
        expected = [steps_to(rings, quiet), max(ring.count(1) for ring in rings)] + first
        self.assertEqual(answer, [[number] for number in expected], states)

    def test_steps_one_by_one_lead_to_what_is_told(self):
        for states in every_ring():
            self.assert_forecast(states)

    def test_quiet_if_stand_up_is_steps_until_quiet_behind_stand_up(self):
        for states in every_ring():
            for i in range(len(states)):
                if states[i] == 0:
                    would_be = play_on(states, (QUIET_IF_STAND_UP, i))[-1]
                    self.assertEqual(would_be, play_on(states, (STAND_UP, i), (STEPS_UNTIL_QUIET,))[-1], (states, i))


class StepsUntilQuiet(unittest.TestCase):
    def assert_quiet_after(self, states, steps):
        self.assertEqual(play_on(states, (STEPS_UNTIL_QUIET,)), [[steps]], states)

    def test_quiet_now(self):
        for n in range(3, 13):
            self.assert_quiet_after([0] * n, 0)

    def test_one_section_stands(self):
        for n in range(3, 13):
            for i in (0, n // 2, n - 1):
                answer = play((CREATE, n), (STAND_UP, i), (STEPS_UNTIL_QUIET,))
                self.assertEqual(answer[-1], [n // 2 + 2])

    def test_one_section_rests(self):
        self.assert_quiet_after([0, 0, 2], 1)
        self.assert_quiet_after([2] * 12, 1)

    def test_all_sections_stand(self):
        self.assert_quiet_after([1] * 3, 2)
        self.assert_quiet_after([1] * 12, 2)

    def test_never(self):
        for states in ([0, 1, 2], [2, 1, 0], [2, 1] + [0] * 10, [0, 1, 2] * 4, [2, 2, 1, 1, 0, 0]):
            self.assert_quiet_after(states, NEVER)

    def test_waves_against_each_other(self):
        self.assert_quiet_after([2, 1, 0, 0, 1, 2], 3)
        self.assert_quiet_after([2, 1, 0, 2, 1, 0, 0, 1, 2], NEVER)

    def test_counts_down(self):
        answer = play_on([1, 0, 0, 0], *[(STEPS_UNTIL_QUIET,), (STEP,)] * 6)[::2]
        self.assertEqual(answer, [[4], [3], [2], [1], [0], [0]])

    def test_a_wave_that_never_ends_may_sit_down(self):
        answer = play((CREATE, 6), (START_WAVE, 2, 1), (STEPS_UNTIL_QUIET,), (SIT_DOWN,), (STEPS_UNTIL_QUIET,))
        self.assertEqual(answer[2:], [[NEVER], [2], [0]])


class Cycle(unittest.TestCase):
    def assert_cycle(self, states, start, period):
        self.assertEqual(play_on(states, (CYCLE,)), [[start, period]], states)

    def test_quiet_ring(self):
        for n in range(3, 13):
            self.assert_cycle([0] * n, 0, 1)

    def test_a_single_wave_is_in_its_cycle_from_the_start(self):
        for n in range(3, 13):
            for direction in (0, 1):
                self.assertEqual(play((CREATE, n), (START_WAVE, 0, direction), (CYCLE,))[-1], [0, n])

    def test_several_waves(self):
        self.assert_cycle([2, 1, 0] * 4, 0, 3)
        self.assert_cycle([2, 1, 0, 0, 2, 1, 0, 0], 0, 4)
        self.assert_cycle([2, 1, 0, 2, 1, 0, 0, 0], 0, 8)
        self.assert_cycle([2, 1, 0, 0, 0, 0] * 2, 0, 6)

    def test_a_ring_that_becomes_quiet_repeats_from_then_on(self):
        self.assert_cycle([0, 0, 2], 1, 1)
        self.assert_cycle([1, 1, 1], 2, 1)
        self.assert_cycle([1, 0, 0, 0, 0], 4, 1)
        self.assert_cycle([1] + [0] * 11, 8, 1)

    def test_a_running_cycle_that_starts_later(self):
        self.assert_cycle([2, 2, 1, 1, 0, 0], 2, 6)
        self.assert_cycle([0, 1, 1, 2], 2, 4)
        self.assert_cycle([0, 0, 0, 0, 0, 1, 0, 2, 1], 5, 9)

    def test_start_comes_nearer_with_each_step(self):
        answer = play_on([2, 2, 1, 1, 0, 0], *[(CYCLE,), (STEP,)] * 4)[::2]
        self.assertEqual(answer, [[2, 6], [1, 6], [0, 6], [0, 6]])


class MaxStanding(unittest.TestCase):
    def assert_most(self, states, count):
        self.assertEqual(play_on(states, (MAX_STANDING,)), [[count]], states)

    def test_quiet_ring(self):
        for n in (3, 12):
            self.assert_most([0] * n, 0)

    def test_nobody_stands_any_more(self):
        self.assert_most([2, 0, 2, 2], 0)

    def test_reached_now(self):
        self.assert_most([1] * 3, 3)
        self.assert_most([1] * 12, 12)
        self.assert_most([1, 1, 1, 0], 3)
        self.assert_most([2, 1, 0, 0], 1)

    def test_reached_later_only(self):
        self.assert_most([1, 0, 0], 2)
        self.assert_most([0] * 11 + [1], 2)
        self.assert_most([0, 1, 0, 0, 0, 1, 0, 0, 0, 1, 0, 0], 6)

    def test_what_is_past_does_not_count(self):
        self.assertEqual(play_on([1, 1, 1, 0], (STEP,), (MAX_STANDING,)), [[1], [1]])


class FirstStanding(unittest.TestCase):
    def assert_first(self, states, *steps):
        answer = play_on(states, *[(FIRST_STANDING, i) for i in range(len(states))])
        self.assertEqual(answer, [[number] for number in steps], states)

    def test_now_and_later(self):
        self.assert_first([1, 0, 0], 0, 1, 1)
        self.assert_first([1, 0, 0, 0, 0], 0, 1, 2, 2, 1)

    def test_all_now(self):
        self.assert_first([1] * 12, *[0] * 12)

    def test_a_wave_comes_around_the_largest_ring(self):
        self.assert_first([1] + [0] * 10 + [2], *range(12))
        self.assert_first([1, 2] + [0] * 10, 0, *range(11, 0, -1))

    def test_a_resting_section_stands_once_it_is_seated_again(self):
        self.assert_first([2, 1, 0], 2, 0, 1)

    def test_never_in_a_quiet_ring(self):
        self.assert_first([0] * 3, *[NEVER] * 3)
        self.assert_first([0] * 12, *[NEVER] * 12)

    def test_never_where_nobody_stands(self):
        self.assert_first([2, 0, 2, 0], *[NEVER] * 4)

    def test_never_beside_a_section_that_stands(self):
        self.assert_first([2, 1, 2], NEVER, 0, NEVER)
        self.assert_first([2, 1, 0, 1, 2], NEVER, 0, 1, 0, NEVER)


class QuietIfStandUp(unittest.TestCase):
    def assert_quiet_if(self, states, i, steps):
        self.assertEqual(play_on(states, (QUIET_IF_STAND_UP, i)), [[steps]], (states, i))

    def test_quiet_ring(self):
        for n in range(3, 13):
            for i in (0, n - 1):
                self.assert_quiet_if([0] * n, i, n // 2 + 2)

    def test_beside_a_resting_section_a_wave_starts(self):
        self.assert_quiet_if([2, 0, 0, 0, 0, 0], 1, NEVER)
        self.assert_quiet_if([2, 0, 0, 0, 0, 0], 5, NEVER)
        self.assert_quiet_if([2] + [0] * 10 + [2], 1, NEVER)

    def test_a_wave_that_never_ends_is_met(self):
        self.assert_quiet_if([0, 2, 1, 0, 0, 0], 0, 4)
        self.assert_quiet_if([0, 2, 1, 0, 0, 0], 3, NEVER)

    def test_is_not_what_steps_until_quiet_returns_now(self):
        answer = play_on([1, 0, 0, 0, 0, 0], (STEPS_UNTIL_QUIET,), (QUIET_IF_STAND_UP, 3), (STEPS_UNTIL_QUIET,))
        self.assertEqual(answer, [[5], [3], [5]])


if __name__ == "__main__":
    unittest.main()

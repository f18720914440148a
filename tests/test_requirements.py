"""Points 4, 6 and 7 of the requirements."""

import unittest

from tests.helper import (
    ADVANCE, CREATE, GET_RING, GET_SECTION, GREATEST, GREATEST_IN_LIST, MIRROR, ROTATE, SET_ALL, SET_SECTION,
    STAND_UP, START_WAVE, STEP, all_rings, play_on, ring_behind, sample_rings)


class Symmetry(unittest.TestCase):
    """Point 4: rotating or mirroring before a step has the same effect as behind it."""

    def assert_commutes(self, states, turn):
        self.assertEqual(ring_behind(states, turn, (STEP,)), ring_behind(states, (STEP,), turn), (states, turn))

    def test_rotating_every_small_ring(self):
        for sections in (3, 4, 5):
            for states in all_rings(sections):
                for distance in range(13):
                    self.assert_commutes(states, (ROTATE, distance))

    def test_mirroring_every_small_ring(self):
        for sections in (3, 4, 5, 6):
            for states in all_rings(sections):
                self.assert_commutes(states, (MIRROR,))

    def test_rings_of_every_size(self):
        for states in sample_rings():
            self.assert_commutes(states, (MIRROR,))
            for distance in (0, 1, 5, 11, 12):
                self.assert_commutes(states, (ROTATE, distance))


class StandingRule(unittest.TestCase):
    """Point 6: a section stands behind a step if and only if it was seated and a neighbor was standing."""

    def assert_rule(self, states):
        n = len(states)
        after = ring_behind(states, (STEP,))
        for i in range(n):
            neighbor_stood = 1 in (states[(i - 1) % n], states[(i + 1) % n])
            self.assertEqual(after[i] == 1, states[i] == 0 and neighbor_stood, (states, i))
            self.assertEqual(after[i] == 2, states[i] == 1, (states, i))

    def test_every_small_ring(self):
        for sections in range(3, 8):
            for states in all_rings(sections):
                self.assert_rule(states)

    def test_rings_of_every_size(self):
        for states in sample_rings():
            self.assert_rule(states)

    def test_on_every_step_of_advance(self):
        for states in sample_rings():
            for steps in (1, 2, 3):
                earlier = ring_behind(states, (ADVANCE, steps - 1))
                self.assertEqual(ring_behind(states, (ADVANCE, steps)), ring_behind(earlier, (STEP,)))


class NothingChanges(unittest.TestCase):
    """Point 7: queries are pure, and errors leave the state unchanged."""

    def test_queries(self):
        for states in sample_rings():
            n = len(states)
            queries = [(GET_RING,), (GET_SECTION, 0), (GET_SECTION, n - 1), (GET_SECTION, n)]
            answer = play_on(states, *queries, *queries)
            self.assertEqual(answer, [[n] + states, [states[0]], [states[-1]], [-2]] * 2)
            self.assertEqual(ring_behind(states, *queries, (STEP,)), ring_behind(states, (STEP,)))

    def test_errors(self):
        for states in sample_rings():
            n = len(states)
            standing = [i for i in range(n) if states[i] == 1]
            errors = [
                (CREATE, 2), (CREATE, 13), (SET_SECTION, n, 1), (SET_SECTION, 0, 3), (SET_ALL, []),
                (SET_ALL, [1] * (n + 1)), (SET_ALL, [1] * (n - 1) + [3]), (SET_ALL, [GREATEST_IN_LIST] * n),
                (STAND_UP, n), (START_WAVE, n, 0), (START_WAVE, 0, 2), (ADVANCE, 41), (ADVANCE, GREATEST),
                (ROTATE, 13), (ROTATE, GREATEST), (GET_SECTION, n)]
            for i in standing:
                errors.extend([(STAND_UP, i), (START_WAVE, (i + 1) % n, 0), (START_WAVE, (i - 1) % n, 1)])
            answer = play_on(states, *errors, (GET_RING,), (STEP,), (GET_RING,))
            self.assertTrue(all(len(code) == 1 and code[0] < 0 for code in answer[:-3]), answer)
            self.assertEqual(answer[-3:], play_on(states, (GET_RING,), (STEP,), (GET_RING,)))


if __name__ == "__main__":
    unittest.main()

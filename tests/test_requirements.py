"""Points 1 to 7 of the requirements, over all small rings and some of every size."""

import unittest

from tests.helper import (
    ADVANCE, CREATE, CYCLE, FIRST_STANDING, GET_RING, GET_SECTION, GET_STATE, GREATEST, GREATEST_IN_LIST, MIRROR,
    NEVER, QUIET_IF_STAND_UP, RING_AFTER, ROTATE, SET_ALL, SET_SECTION, STAND_UP, START_WAVE, STEP, STEPS_UNTIL_QUIET,
    WINDING_NUMBER, all_rings, every_ring, play_on, queries, ring_behind, rings_ahead, sample_rings)


def winding_behind(states, *calls):
    """The winding number that a ring with these states has behind these calls."""
    zero, number = play_on(states, *calls, (WINDING_NUMBER,))[-1]
    if zero != 0:
        raise ValueError(f"{zero} instead of 0 ahead of the winding number")
    return number


class Winding(unittest.TestCase):
    """Points 1 and 5: the winding number is invariant and bound."""

    def test_no_step_changes_it(self):
        for states in every_ring():
            answer = play_on(states, (WINDING_NUMBER,), *[(STEP,), (WINDING_NUMBER,)] * 20)
            self.assertEqual(answer[::2], [answer[0]] * 21, states)

    def test_advance_changes_it_neither(self):
        for states in every_ring():
            number = winding_behind(states)
            for steps in (0, 1, 39, 40):
                self.assertEqual(winding_behind(states, (ADVANCE, steps)), number, states)

    def test_is_at_most_a_third_of_the_sections(self):
        for states in every_ring():
            self.assertLessEqual(3 * abs(winding_behind(states)), len(states), states)

    def test_every_number_within_the_bound_is_there(self):
        for sections in range(3, 7):
            found = {winding_behind(states) for states in all_rings(sections)}
            self.assertEqual(found, set(range(-(sections // 3), sections // 3 + 1)))
        found = {(len(states), winding_behind(states)) for states in sample_rings()}
        for sections in range(3, 13):
            for number in range(-(sections // 3), sections // 3 + 1):
                self.assertIn((sections, number), found)


class Quiet(unittest.TestCase):
    """Point 2: a ring becomes quiet if and only if its winding number is 0."""

    def test_first_quiet_ring(self):
        for states in every_ring():
            quiet = [0] * len(states)
            ahead = rings_ahead(states)
            winding, steps = play_on(states, (WINDING_NUMBER,), (STEPS_UNTIL_QUIET,))
            self.assertEqual(winding == [0, 0], quiet in ahead, states)
            self.assertEqual(steps, [ahead.index(quiet) if quiet in ahead else NEVER], states)

    def test_refused_if_and_only_if_the_winding_number_is_not_0(self):
        for states in all_rings(7):
            winding, steps = play_on(states, (WINDING_NUMBER,), (STEPS_UNTIL_QUIET,))
            self.assertEqual(winding == [0, 0], steps != [NEVER], states)


class Cycles(unittest.TestCase):
    """Point 3: the cycle is exact; its start and its period are the smallest."""

    def test_ring_repeats_from_the_start_on_and_not_before(self):
        for states in every_ring():
            ahead = rings_ahead(states)
            (start, period), = play_on(states, (CYCLE,))
            self.assertGreaterEqual(period, 1, states)
            self.assertLessEqual(start + period, 60, states)
            self.assertEqual(ahead[start:-period], ahead[start + period:], states)
            for shorter in range(1, period):
                self.assertNotEqual(ahead[start], ahead[start + shorter], states)
            if start > 0:
                self.assertNotEqual(ahead[start - 1], ahead[start - 1 + period], states)

    def test_ring_after_start_and_period_is_the_ring_after_start(self):
        for states in sample_rings():
            (start, period), = play_on(states, (CYCLE,))
            later = [(RING_AFTER, start + turns * period) for turns in range(3)]
            answer = play_on(states, *later)
            self.assertEqual(answer, [answer[0]] * 3, states)


class Symmetry(unittest.TestCase):
    """Point 4: rotating or mirroring before a step has the same effect as behind it."""

    def assert_commutes(self, states, turn):
        self.assertEqual(ring_behind(states, turn, (STEP,)), ring_behind(states, (STEP,), turn), (states, turn))

    def test_rotating_every_small_ring(self):
        for sections in (3, 4, 5):
            for states in all_rings(sections):
                for distance in range(13):
                    self.assert_commutes(states, (ROTATE, distance))

    def test_mirroring_every_small_ring(self):
        for sections in (3, 4, 5, 6):
            for states in all_rings(sections):
                self.assert_commutes(states, (MIRROR,))

    def test_rings_of_every_size(self):
        for states in sample_rings():
            self.assert_commutes(states, (MIRROR,))
            for distance in (0, 1, 5, 11, 12):
                self.assert_commutes(states, (ROTATE, distance))


    def test_mirroring_negates_the_winding_number(self):
        for states in every_ring():
            self.assertEqual(winding_behind(states, (MIRROR,)), -winding_behind(states), states)

    def test_rotating_keeps_the_winding_number(self):
        for states in sample_rings():
            for distance in (1, 5, 12):
                self.assertEqual(winding_behind(states, (ROTATE, distance)), winding_behind(states), states)


class StandingRule(unittest.TestCase):
    """Point 6: a section stands behind a step if and only if it was seated and a neighbor was standing."""

    def assert_rule(self, states):
        n = len(states)
        after = ring_behind(states, (STEP,))
        for i in range(n):
            neighbor_stood = 1 in (states[(i - 1) % n], states[(i + 1) % n])
            self.assertEqual(after[i] == 1, states[i] == 0 and neighbor_stood, (states, i))
            self.assertEqual(after[i] == 2, states[i] == 1, (states, i))

    def test_every_small_ring(self):
        for sections in range(3, 8):
            for states in all_rings(sections):
                self.assert_rule(states)

    def test_rings_of_every_size(self):
        for states in sample_rings():
            self.assert_rule(states)

    def test_on_every_step_of_advance(self):
        for states in sample_rings():
            for steps in (1, 2, 3):
                earlier = ring_behind(states, (ADVANCE, steps - 1))
                self.assertEqual(ring_behind(states, (ADVANCE, steps)), ring_behind(earlier, (STEP,)))


class NothingChanges(unittest.TestCase):
    """Point 7: queries are pure, and errors leave the state unchanged."""

    def test_queries(self):
        for states in sample_rings():
            n = len(states)
            asked = queries(n)
            look = [(GET_RING,), (GET_STATE,)]
            answer = play_on(states, (STEP,), *asked, *asked, *look, (STEP,), *look)
            self.assertEqual(answer[1:len(asked) + 1], answer[len(asked) + 1:2 * len(asked) + 1], states)
            expected = play_on(states, (STEP,), *look, (STEP,), *look)
            self.assertEqual(answer[2 * len(asked) + 1:], expected[1:], states)

    def test_each_query_alone(self):
        for states in ([1, 0, 2], [0] * 4, [2, 1, 0, 0, 0, 1], [2, 1] + [0] * 10):
            ahead = rings_ahead(states, 1)
            for query in queries(len(states)):
                look = [(GET_RING,), (GET_STATE,)]
                answer = play_on(states, query, *look, (STEP,), *look)[1:]
                self.assertEqual([answer[0][1:], answer[3][1:]], ahead, (states, query))
                self.assertEqual([answer[1][1], answer[4][1]], [0, 1], (states, query))

    def test_errors(self):
        for states in sample_rings():
            n = len(states)
            standing = [i for i in range(n) if states[i] == 1]
            errors = [
                (CREATE, 2), (CREATE, 13), (SET_SECTION, n, 1), (SET_SECTION, 0, 3), (SET_ALL, []),
                (SET_ALL, [1] * (n + 1)), (SET_ALL, [1] * (n - 1) + [3]), (SET_ALL, [GREATEST_IN_LIST] * n),
                (STAND_UP, n), (START_WAVE, n, 0), (START_WAVE, 0, 2), (ADVANCE, 41), (ADVANCE, GREATEST),
                (ROTATE, 13), (ROTATE, GREATEST), (GET_SECTION, n), (RING_AFTER, 41), (RING_AFTER, GREATEST),
                (FIRST_STANDING, n), (QUIET_IF_STAND_UP, n), (FIRST_STANDING, GREATEST)]
            for i in standing:
                errors.extend([(STAND_UP, i), (START_WAVE, (i + 1) % n, 0), (START_WAVE, (i - 1) % n, 1)])
                errors.append((QUIET_IF_STAND_UP, i))
            if winding_behind(states) != 0:
                errors.append((STEPS_UNTIL_QUIET,))
            if not standing:
                errors.append((FIRST_STANDING, 0))
            look = [(GET_RING,), (GET_STATE,), (STEP,), (GET_RING,), (GET_STATE,)]
            answer = play_on(states, *errors, *look)
            self.assertTrue(all(len(code) == 1 and code[0] < 0 for code in answer[:-len(look)]), answer)
            self.assertEqual(answer[-len(look):], play_on(states, *look))


if __name__ == "__main__":
    unittest.main()

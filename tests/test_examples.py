"""The examples of the document, each block one session."""

import unittest

from tests.helper import (
    ADVANCE, CREATE, CYCLE, FIRST_STANDING, FORWARD_WAVES, GET_RING, GET_STATE, MAX_STANDING, RING_AFTER, STAND_UP,
    START_WAVE, STEP, STEPS_UNTIL_QUIET, WINDING_NUMBER, play)


class Examples(unittest.TestCase):
    def assert_block(self, block):
        self.assertEqual(play(*[call for call, answer in block]), [answer for call, answer in block])

    def test_a_single_wave(self):
        self.assert_block([
            ((CREATE, 6), [0]),
            ((START_WAVE, 2, 0), [1]),
            ((GET_RING,), [6, 0, 2, 1, 0, 0, 0]),
            ((WINDING_NUMBER,), [0, -1]),
            ((FORWARD_WAVES,), [1, 2]),
            ((STEP,), [1]),
            ((GET_RING,), [6, 0, 0, 2, 1, 0, 0]),
            ((STEPS_UNTIL_QUIET,), [-33]),
            ((CYCLE,), [0, 6]),
        ])

    def test_two_waves_that_meet(self):
        self.assert_block([
            ((CREATE, 5), [0]),
            ((STAND_UP, 0), [1]),
            ((STEPS_UNTIL_QUIET,), [4]),
            ((MAX_STANDING,), [2]),
            ((FIRST_STANDING, 2), [2]),
            ((RING_AFTER, 2), [5, 0, 2, 1, 1, 2]),
            ((WINDING_NUMBER,), [0, 0]),
            ((ADVANCE, 4), [0]),
            ((GET_STATE,), [5, 4, 0]),
        ])

    def test_errors(self):
        self.assert_block([
            ((CREATE, 2), [-22]),
            ((GET_RING,), [-11]),
            ((CREATE, 3), [0]),
            ((STAND_UP, 3), [-2]),
            ((STAND_UP, 0), [1]),
            ((STAND_UP, 0), [-17]),
            ((START_WAVE, 1, 0), [-17]),
            ((ADVANCE, 41), [-22]),
            ((FIRST_STANDING, 1), [1]),
        ])


if __name__ == "__main__":
    unittest.main()

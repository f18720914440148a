"""The examples of the document, with the calls 0 to 11."""

import unittest

from tests.helper import ADVANCE, CREATE, GET_RING, START_WAVE, STAND_UP, STEP, play


class Examples(unittest.TestCase):
    def test_a_single_wave(self):
        answer = play((CREATE, 6), (START_WAVE, 2, 0), (GET_RING,), (STEP,), (GET_RING,))
        self.assertEqual(answer, [[0], [1], [6, 0, 2, 1, 0, 0, 0], [1], [6, 0, 0, 2, 1, 0, 0]])

    def test_two_waves_that_meet(self):
        self.assertEqual(play((CREATE, 5), (STAND_UP, 0), (ADVANCE, 4)), [[0], [1], [0]])

    def test_errors(self):
        answer = play(
            (CREATE, 2), (GET_RING,), (CREATE, 3), (STAND_UP, 3), (STAND_UP, 0), (STAND_UP, 0), (START_WAVE, 1, 0),
            (ADVANCE, 41))
        self.assertEqual(answer, [[-22], [-11], [0], [-2], [1], [-17], [-17], [-22]])


if __name__ == "__main__":
    unittest.main()
